/- At every two codes the law of FrmBytes returns true (promise 14): a frame's bytes are read as it; with one byte turned, one more, or without the last one, nothing is read; what is read is ok, and has the bytes. The package's errors that its road reads are as the program's text lays them. -/
import Derived.Test.YthnlpdjjnfkmeaaDoorRows
import Derived.Test.YthnlpdjjnfkmeaaDoorTie
import Derived.Test.YthnlpdjjnfkmeaaDoorCards
import Derived.Test.YthnlpdjjnfkmeaaDoorWFnFrmBytesX
import Derived.Test.YthnlpdjjnfkmeaaDoorMa
import Derived.Test.YthnlpdjjnfkmeaaDoorMb
import Derived.Test.YthnlpdjjnfkmeaaDoorMc
import Derived.Test.YthnlpdjjnfkmeaaDoorMd
import Derived.Test.YthnlpdjjnfkmeaaDoorMe
import Derived.WalkKit
import Derived.ProofKit
import Derived.OpenShut
import Derived.ChangeOld
import Derived.Below
import Derived.LaidMore
import Derived.LaidHandle
import Derived.MakeChecks
import Derived.Stop.Joined
import Derived.Stop.LaidErr
import Derived.SevenTiedAt
namespace Go.Proofs.YthnlpdjjnfkmeaaDoor.fnFrmBytes
open Go.ChangeShapes Go.WideShapes Go.ChangeAt Go.RowKit
set_option linter.unusedVariables false

theorem own : ownKnob Tryd.prog.godebug = none := by kernel_rfl
theorem laidOut : laidOutB Tryd.prog = true := by kernel_rfl
theorem gv0 : Tryd.prog.globalNamed "loop.example/linkboy/impl.errFrameSum" = some 1 := by kernel_rfl
theorem tv0 : (Tryd.prog.globals[1]?).map (·.type) = some 57 := by kernel_rfl
theorem gv1 : Tryd.prog.globalNamed "loop.example/linkboy/impl.errFrameFew" = some 3 := by kernel_rfl
theorem tv1 : (Tryd.prog.globals[3]?).map (·.type) = some 57 := by kernel_rfl
theorem gv2 : Tryd.prog.globalNamed "loop.example/linkboy/impl.errFrameMany" = some 2 := by kernel_rfl
theorem tv2 : (Tryd.prog.globals[2]?).map (·.type) = some 57 := by kernel_rfl
theorem cellsS : Tryd.prog.cellsOf 153 = 1 := by kernel_rfl
theorem cellsT : Tryd.prog.cellsOf 9 = 1 := by kernel_rfl
theorem star : "*" ++ "errors.errorString" = "*errors.errorString" := by decide
theorem rowE (u : TypeId) (h : Tryd.prog.typeName? 3 u = some "*errors.errorString") : u = 127 :=
  typeName_ptr_named (nm := "errors.errorString") (by rw [star]; kernel_rfl) (by kernel_rfl) (by decide) u (by rw [star]; exact h)

/-- What the condition gives: each variable is an interface value; no two are one. -/
theorem of_laid {W : World} (h : laidMetH Tryd.prog Rows.fnFrmBytesRow.laid W) : ∃ a10 a11 a12 : Addr,
    W.var? Tryd.prog "loop.example/linkboy/impl.errFrameSum" = some #[.iface 127 (.pointer (some a10))] ∧
    W.var? Tryd.prog "loop.example/linkboy/impl.errFrameFew" = some #[.iface 127 (.pointer (some a11))] ∧
    W.var? Tryd.prog "loop.example/linkboy/impl.errFrameMany" = some #[.iface 127 (.pointer (some a12))] ∧
    (∃ c t, W.heap[a10.block]? = some (.cells c t (0, 0))) ∧
    (∃ c t, W.heap[a11.block]? = some (.cells c t (0, 0))) ∧
    (∃ c t, W.heap[a12.block]? = some (.cells c t (0, 0))) ∧
    a10 ≠ a11 ∧
    a10 ≠ a12 ∧
    a11 ≠ a12 := by
  rw [MakeChecks.laidMetH_plain _ _ _ (by kernel_rfl)] at h
  obtain ⟨a10, s0, c0, t0, hv0, hs0, ht0, hb0⟩ := laid_block h gv0 tv0 Tryd.underlying57 rowE Tryd.underlying127 Tryd.underlying153 rfl rfl Tryd.underlying9 cellsS cellsT
  obtain ⟨a11, s1, c1, t1, hv1, hs1, ht1, hb1⟩ := laid_block h.tail gv1 tv1 Tryd.underlying57 rowE Tryd.underlying127 Tryd.underlying153 rfl rfl Tryd.underlying9 cellsS cellsT
  obtain ⟨a12, s2, c2, t2, hv2, hs2, ht2, hb2⟩ := laid_block h.tail.tail gv2 tv2 Tryd.underlying57 rowE Tryd.underlying127 Tryd.underlying153 rfl rfl Tryd.underlying9 cellsS cellsT
  have hne0_1 : a10 ≠ a11 := by
    rintro rfl
    have e := hs0.symm.trans hs1
    simp only [Option.some.injEq, Value.string.injEq] at e
    rw [e] at ht0
    have := ht0.symm.trans ht1
    revert this
    decide
  have hne0_2 : a10 ≠ a12 := by
    rintro rfl
    have e := hs0.symm.trans hs2
    simp only [Option.some.injEq, Value.string.injEq] at e
    rw [e] at ht0
    have := ht0.symm.trans ht2
    revert this
    decide
  have hne1_2 : a11 ≠ a12 := by
    rintro rfl
    have e := hs1.symm.trans hs2
    simp only [Option.some.injEq, Value.string.injEq] at e
    rw [e] at ht1
    have := ht1.symm.trans ht2
    revert this
    decide
  exact ⟨a10, a11, a12, hv0, hv1, hv2, ⟨c0, t0, hb0⟩, ⟨c1, t1, hb1⟩, ⟨c2, t2, hb2⟩, hne0_1, hne0_2, hne1_2⟩

theorem var_lt {W : World} {n : String} {g : Nat} {cs : Array Value} (hg : Tryd.prog.globalNamed n = some g) (h : W.var? Tryd.prog n = some cs) : g < W.heap.size := by
  unfold World.var? at h
  rw [hg] at h
  rcases Nat.lt_or_ge g W.heap.size with h' | h'
  · exact h'
  · simp [Array.getElem?_eq_none h'] at h
theorem vars_read {H : Type} (enc : TypeId × Value → H) {W : World} {x0 x1 x2 : Value} (h0 : W.var? Tryd.prog "loop.example/linkboy/impl.errFrameSum" = some #[x0]) (h1 : W.var? Tryd.prog "loop.example/linkboy/impl.errFrameFew" = some #[x1]) (h2 : W.var? Tryd.prog "loop.example/linkboy/impl.errFrameMany" = some #[x2]) (i0 : IsIface x0) (i1 : IsIface x1) (i2 : IsIface x2) (sp : Nat → Bool) :
    DataW.TrodVars enc Tryd.prog W sp ["loop.example/linkboy/impl.errFrameSum", "loop.example/linkboy/impl.errFrameFew", "loop.example/linkboy/impl.errFrameMany"] [tok enc x0, tok enc x1, tok enc x2] [.cell 1 0, .cell 3 0, .cell 2 0] :=
  ⟨1, 57, #[x0], 1, [], [.cell 3 0, .cell 2 0], gv0, tv0, h0, trod_held Tryd.underlying57 i0 0, ⟨3, 57, #[x1], 1, [], [.cell 2 0], gv1, tv1, h1, trod_held Tryd.underlying57 i1 0, ⟨2, 57, #[x2], 1, [], [], gv2, tv2, h2, trod_held Tryd.underlying57 i2 0, rfl, rfl⟩, rfl⟩, rfl⟩

theorem door_met (os : Os) (args : Array Value) : laidMetH Tryd.prog Rows.fnFrmBytesRow.laid ((World.doorLaid Tryd.prog 88 os).forCall (fun _ _ => 0) ⟨#[], args, []⟩).memory :=
  laidMetH_of_parts3 (fuel := 8) (laidMet_of_run' 8 (by kernel_rfl) (by kernel_rfl)) (by kernel_rfl) (by kernel_rfl)

set_option maxRecDepth 100000 in
set_option maxHeartbeats 1000000 in
theorem lifted (os : Os) (started : os.Started) (H : Type) (enc : TypeId × Value → H) :
    ReturnsInHanded {} Tryd.checked os 3 .any (fun w args => (Rows.fnFrmBytesSpec.pre enc Tryd.prog Tryd.f3 [] false w args ∧ laidMetH Tryd.prog Rows.fnFrmBytesRow.laid w) ∧ sizedMet enc Tryd.prog Tryd.f3 (OpenSpec.ofChange Rows.fnFrmBytesSpec) false w args)
      (Rows.fnFrmBytesSpec.post enc Tryd.prog Tryd.f3 false true false false) := by
  refine returnsInHanded_of_change_and (C := Tryd.checked) (X := fun w _ => laidMetH Tryd.prog Rows.fnFrmBytesRow.laid w) (fun _ _ _ hh h => h.of_heap hh) own started (by kernel_rfl) Tryd.func3
    (ChangeSpec.witness_shaped (enc := enc) (C := Tryd.checked) (os := os) (X := fun w _ => laidMetH Tryd.prog Rows.fnFrmBytesRow.laid w) false (World.doorLaid Tryd.prog 88 os) #[.slice none 0 0, .slice none 0 0] 8 rfl (World.shaped_of_RefB (by kernel_rfl) (by kernel_rfl)) (by kernel_rfl) (by kernel_rfl) (by kernel_rfl) (door_met os _)) ?_
  intro W base args ds gs before hval0 hW _ _ hL _
  have hval : ∀ (j : Nat) t v, Tryd.f3.params[j]? = some t → args[j]? = some v → Value.okWide Tryd.prog W .any base t v := hval0
  have hW' := hW
  obtain ⟨p, q, hA0, hV0, rfl, hfz, hnd⟩ := hW
  have hA : DataW.TrodAll enc Tryd.prog W 0 (fun _ => true) true Tryd.f3.params.toList args.toList ds p := hA0
  have hV : DataW.TrodVars enc Tryd.prog W (fun _ => true) ["loop.example/linkboy/impl.errFrameSum", "loop.example/linkboy/impl.errFrameFew", "loop.example/linkboy/impl.errFrameMany"] gs q := hV0
  rw [Tryd.params3] at hA hval
  obtain ⟨v0, vs0, d0, ds0, p0, q0, hargs0, rfl, rfl, h0, r0⟩ := trodAll_cons hA
  obtain ⟨v1, vs1, d1, ds1, p1, q1, hargs1, rfl, rfl, h1, r1⟩ := trodAll_cons r0
  obtain ⟨rfl, rfl, rfl⟩ := trodAll_nil r1
  obtain rfl : args = #[v0, v1] := by cases args; simp_all
  obtain ⟨a10, a11, a12, hv0, hv1, hv2, hb0, hb1, hb2, hne0_1, hne0_2, hne1_2⟩ := of_laid hL
  obtain ⟨rfl, rfl⟩ := hV.unique (vars_read enc hv0 hv1 hv2 trivial trivial trivial _)
  have k0 := h0
  have lt0 : ∀ x ∈ p0, x.block < W.heap.size := by obtain ⟨m, hm⟩ := k0; exact DataW.trod_lt m _ _ _ hm
  obtain ⟨s0, l0, c0, rfl⟩ := okWide_slice Tryd.underlying22 (hval 0 22 v0 rfl rfl)
  obtain ⟨fuel0, hf0⟩ := h0
  obtain ⟨a, l, c, z0, e0, w0⟩ := opn_bytes hf0
  simp [Value.cells] at e0
  obtain ⟨rfl, rfl, rfl⟩ := e0
  have k1 := h1
  have lt1 : ∀ x ∈ p1, x.block < W.heap.size := by obtain ⟨m, hm⟩ := k1; exact DataW.trod_lt m _ _ _ hm
  obtain ⟨s1, l1, c1, rfl⟩ := okWide_slice Tryd.underlying22 (hval 1 22 v1 rfl rfl)
  obtain ⟨fuel1, hf1⟩ := h1
  obtain ⟨a, l, c, z1, e1, w1⟩ := opn_bytes hf1
  simp [Value.cells] at e1
  obtain ⟨rfl, rfl, rfl⟩ := e1
  have hE : VarsIn [(1, .iface 127 (.pointer (some a10))), (3, .iface 127 (.pointer (some a11))), (2, .iface 127 (.pointer (some a12)))] W := by
    intro g v hm
    simp only [List.mem_cons, Prod.mk.injEq, List.not_mem_nil, or_false] at hm
    rcases hm with ⟨rfl, rfl⟩ | ⟨rfl, rfl⟩ | ⟨rfl, rfl⟩
    · exact ⟨⟨by simpa using World.var?_cell gv0 hv0 0, var_lt gv0 hv0, rfl⟩, fun t a e => by obtain ⟨rfl, rfl⟩ := (show 127 = t ∧ a10 = a by simpa using e); exact hb0⟩
    · exact ⟨⟨by simpa using World.var?_cell gv1 hv1 0, var_lt gv1 hv1, rfl⟩, fun t a e => by obtain ⟨rfl, rfl⟩ := (show 127 = t ∧ a11 = a by simpa using e); exact hb1⟩
    · exact ⟨⟨by simpa using World.var?_cell gv2 hv2 0, var_lt gv2 hv2, rfl⟩, fun t a e => by obtain ⟨rfl, rfl⟩ := (show 127 = t ∧ a12 = a by simpa using e); exact hb2⟩
  clear hA0 hV0 hval0
  refine (walk s0 l0 c0 z0 s1 l1 c1 z1 W w0 w1 a10 a11 a12 hE hne0_1 hne0_2 hne1_2).mono fun e W' ⟨he, bel⟩ => ?_
  subst he
  have rv := vars_read enc (var?_below bel gv0 (var_lt gv0 hv0) hv0) (var?_below bel gv1 (var_lt gv1 hv1) hv1) (var?_below bel gv2 (var_lt gv2 hv2) hv2) trivial trivial trivial
  exact ⟨_, rfl, _, _, _, [], _, _, hW', trodAll_mk1 (shut_bool Tryd.underlying4 _), (trodAll_cons_mk (Below.trod laidOut (by kernel_rfl) (of_decide_eq_true (by kernel_rfl)) k0 bel lt0) (trodAll_cons_mk (Below.trod laidOut (by kernel_rfl) (of_decide_eq_true (by kernel_rfl)) k1 bel lt1) trodAll_mk0)), rv _, bel.frame _, fun h => by cases h⟩

theorem over : Rows.fnFrmBytesRow.holds Tryd.pinned (OpenSpec.ofChange Rows.fnFrmBytesSpec) :=
  OpenClaim.holds_of_wide 3 Tryd.f3 rfl rfl rfl rfl rfl rfl rfl ⟨rfl, rfl, rfl, rfl, rfl⟩ rfl rfl rfl rfl rfl (by kernel_rfl) Tryd.func3 (by kernel_rfl)
    (of_decide_eq_true (by kernel_rfl)) (by unfold Func.isWrapper; first | (rw [if_pos (by decide +kernel)]; kernel_rfl) | (rw [if_neg (by decide +kernel)]; exact ⟨rfl, rfl⟩))
    (fun os started H enc _ => lifted os started H enc)

theorem proved : Rows.FnFrmBytesCardSaid :=
  Claim7.holds_tied_plain_at .later [] [.sentinel, .sentinel, .sentinel] true Rows.fnFrmBytesCard.stood.harness true
    over (fun _ h => by cases h) (by kernel_rfl) (fun _ h => by cases h) fnFrmBytes_row_tie rfl ⟨rfl, rfl⟩ (by kernel_rfl) rfl
    (fun f fn hf hfn => by
      obtain rfl : f = 3 := Option.some.inj ((show Tryd.prog.funcNamed "loop.example/linkboy/laws.FnFrmBytes" = some 3 by kernel_rfl).symm.trans hf) |>.symm
      obtain rfl : fn = Tryd.f3 := (Option.some.inj (Tryd.func3.symm.trans hfn)).symm
      exact ⟨by kernel_rfl, fun j t ht => by
        rw [Tryd.params3] at ht
        have hm : t ∈ [22, 22] := by simpa using Array.mem_of_getElem? ht
        have hall : ([22, 22].all fun u => !Tryd.prog.wantsStandIn u) = true := by kernel_rfl
        exact (show Tryd.prog.wantsStandIn t = false by simpa using List.all_eq_true.1 hall t hm)⟩)
    (by kernel_rfl)
#print axioms proved
end Go.Proofs.YthnlpdjjnfkmeaaDoor.fnFrmBytes
