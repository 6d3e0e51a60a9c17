/-
  DERIVED. GIVEN WITH THE SEED: THE PROGRAM's TIES (one call each: nine closed facts by the kernel) AND EACH ROW's TIE, after the 31st guide's Derived/Test/Toyas{Tie, Card}.lean. No idea stands in it: it is a product of the set-up. Laid BY PROGRAM, IN A SANDBOX (cutbox-door.mjs). By AI agents, Wed Nov 11 2026. No macro, syntax, notation, axiom, sorry.
-/
import Derived.Test.YtejafihfbncaoaaDoorRows
import Derived.LaidByTextLater
import Derived.SevenTiedAt
import Derived.LaidSub
import Derived.LaidOnce
namespace Go.Proofs.YtejafihfbncaoaaDoor
open Go
set_option maxRecDepth 100000
theorem seatTie1 : Tryd.prog.laidByTextLater [("loop.example/linkboy/impl.errNoCredit", Rows.laid_loop_example_linkboy_impl_errNoCredit), ("loop.example/linkboy/impl.errNoGrant", Rows.laid_loop_example_linkboy_impl_errNoGrant), ("loop.example/linkboy/impl.errTooMany", Rows.laid_loop_example_linkboy_impl_errTooMany), ("loop.example/linkboy/impl.errNoneMissing", Rows.laid_loop_example_linkboy_impl_errNoneMissing)] [.sentinel, .sentinel, .sentinel, .sentinel] true :=
  Program.laidByTextLater_by_one 85 8 2 (by kernel_rfl) (by kernel_rfl) (by kernel_rfl) (by kernel_rfl) (by kernel_rfl) (by kernel_rfl) (fun _ _ => by kernel_rfl)
theorem noOwnUnsafe : Tryd.pinned.checked.prog.headLifts.contains "ownunsafe" = false := by kernel_rfl
theorem tie : Tryd.prog.laidByTextLater [("loop.example/linkboy/impl.errNoCredit", Rows.laid_loop_example_linkboy_impl_errNoCredit)] [.sentinel] true :=
  Program.laidByTextLater.sub seatTie1 ["loop.example/linkboy/impl.errNoCredit"] (by kernel_rfl) (by kernel_rfl)
theorem fnCrdSend_row_tie : Rows.fnCrdSendRow.laidByTextAt .later Tryd.pinned [.sentinel] true :=
  OpenClaim.laidByTextAt_later rfl rfl tie noOwnUnsafe
theorem fnCrdHear_row_tie : Rows.fnCrdHearRow.laidByTextAt .later Tryd.pinned [.sentinel] true :=
  OpenClaim.laidByTextAt_later rfl rfl tie noOwnUnsafe
theorem tie2 : Tryd.prog.laidByTextLater [("loop.example/linkboy/impl.errNoGrant", Rows.laid_loop_example_linkboy_impl_errNoGrant), ("loop.example/linkboy/impl.errTooMany", Rows.laid_loop_example_linkboy_impl_errTooMany)] [.sentinel, .sentinel] true :=
  Program.laidByTextLater.sub seatTie1 ["loop.example/linkboy/impl.errNoGrant", "loop.example/linkboy/impl.errTooMany"] (by kernel_rfl) (by kernel_rfl)
theorem fnCrdTake_row_tie : Rows.fnCrdTakeRow.laidByTextAt .later Tryd.pinned [.sentinel, .sentinel] true :=
  OpenClaim.laidByTextAt_later rfl rfl tie2 noOwnUnsafe
theorem tie3 : Tryd.prog.laidByTextLater [("loop.example/linkboy/impl.errNoneMissing", Rows.laid_loop_example_linkboy_impl_errNoneMissing)] [.sentinel] true :=
  Program.laidByTextLater.sub seatTie1 ["loop.example/linkboy/impl.errNoneMissing"] (by kernel_rfl) (by kernel_rfl)
theorem fnCrdGrant_row_tie : Rows.fnCrdGrantRow.laidByTextAt .later Tryd.pinned [.sentinel] true :=
  OpenClaim.laidByTextAt_later rfl rfl tie3 noOwnUnsafe
theorem fnCrdSendUpto_row_tie : Rows.fnCrdSendUptoRow.laidByTextAt .later Tryd.pinned [.sentinel] true :=
  OpenClaim.laidByTextAt_later rfl rfl tie noOwnUnsafe
theorem fnCrdTakeUpto_row_tie : Rows.fnCrdTakeUptoRow.laidByTextAt .later Tryd.pinned [.sentinel, .sentinel] true :=
  OpenClaim.laidByTextAt_later rfl rfl tie2 noOwnUnsafe
theorem fnCrdGrantUpto_row_tie : Rows.fnCrdGrantUptoRow.laidByTextAt .later Tryd.pinned [.sentinel] true :=
  OpenClaim.laidByTextAt_later rfl rfl tie3 noOwnUnsafe
theorem fnCrdHearUpto_row_tie : Rows.fnCrdHearUptoRow.laidByTextAt .later Tryd.pinned [.sentinel] true :=
  OpenClaim.laidByTextAt_later rfl rfl tie noOwnUnsafe
end Go.Proofs.YtejafihfbncaoaaDoor
