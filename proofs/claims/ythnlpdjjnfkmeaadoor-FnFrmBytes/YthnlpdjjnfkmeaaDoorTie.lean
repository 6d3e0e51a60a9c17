/-
  DERIVED. GIVEN WITH THE SEED: THE PROGRAM's TIES (one call each: nine closed facts by the kernel) AND EACH ROW's TIE, after the 31st guide's Derived/Test/Toyas{Tie, Card}.lean. No idea stands in it: it is a product of the set-up. Laid BY PROGRAM, IN A SANDBOX (cutbox-door.mjs). By AI agents, Wed Nov 11 2026. No macro, syntax, notation, axiom, sorry.
-/
import Derived.Test.YthnlpdjjnfkmeaaDoorRows
import Derived.LaidByTextLater
import Derived.SevenTiedAt
import Derived.LaidSub
import Derived.LaidOnce
namespace Go.Proofs.YthnlpdjjnfkmeaaDoor
open Go
set_option maxRecDepth 100000
theorem seatTie1 : Tryd.prog.laidByTextLater [("loop.example/linkboy/impl.errFrameSum", Rows.laid_loop_example_linkboy_impl_errFrameSum), ("loop.example/linkboy/impl.errFrameFew", Rows.laid_loop_example_linkboy_impl_errFrameFew), ("loop.example/linkboy/impl.errFrameMany", Rows.laid_loop_example_linkboy_impl_errFrameMany), ("loop.example/linkboy/impl.errNoCredit", Rows.laid_loop_example_linkboy_impl_errNoCredit)] [.sentinel, .sentinel, .sentinel, .sentinel] true :=
  Program.laidByTextLater_by_one 85 8 2 (by kernel_rfl) (by kernel_rfl) (by kernel_rfl) (by kernel_rfl) (by kernel_rfl) (by kernel_rfl) (fun _ _ => by kernel_rfl)
theorem noOwnUnsafe : Tryd.pinned.checked.prog.headLifts.contains "ownunsafe" = false := by kernel_rfl
theorem tie : Tryd.prog.laidByTextLater [("loop.example/linkboy/impl.errFrameSum", Rows.laid_loop_example_linkboy_impl_errFrameSum), ("loop.example/linkboy/impl.errFrameFew", Rows.laid_loop_example_linkboy_impl_errFrameFew), ("loop.example/linkboy/impl.errFrameMany", Rows.laid_loop_example_linkboy_impl_errFrameMany)] [.sentinel, .sentinel, .sentinel] true :=
  Program.laidByTextLater.sub seatTie1 ["loop.example/linkboy/impl.errFrameSum", "loop.example/linkboy/impl.errFrameFew", "loop.example/linkboy/impl.errFrameMany"] (by kernel_rfl) (by kernel_rfl)
theorem fnFrmBytes_row_tie : Rows.fnFrmBytesRow.laidByTextAt .later Tryd.pinned [.sentinel, .sentinel, .sentinel] true :=
  OpenClaim.laidByTextAt_later rfl rfl tie noOwnUnsafe
theorem tie2 : Tryd.prog.laidByTextLater [("loop.example/linkboy/impl.errNoCredit", Rows.laid_loop_example_linkboy_impl_errNoCredit)] [.sentinel] true :=
  Program.laidByTextLater.sub seatTie1 ["loop.example/linkboy/impl.errNoCredit"] (by kernel_rfl) (by kernel_rfl)
theorem fnCrdLimit_row_tie : Rows.fnCrdLimitRow.laidByTextAt .later Tryd.pinned [.sentinel] true :=
  OpenClaim.laidByTextAt_later rfl rfl tie2 noOwnUnsafe
theorem fnFrmBytesUpto_row_tie : Rows.fnFrmBytesUptoRow.laidByTextAt .later Tryd.pinned [.sentinel, .sentinel, .sentinel] true :=
  OpenClaim.laidByTextAt_later rfl rfl tie noOwnUnsafe
theorem fnCrdLimitUpto_row_tie : Rows.fnCrdLimitUptoRow.laidByTextAt .later Tryd.pinned [.sentinel] true :=
  OpenClaim.laidByTextAt_later rfl rfl tie2 noOwnUnsafe
end Go.Proofs.YthnlpdjjnfkmeaaDoor
