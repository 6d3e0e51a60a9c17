/-
  NARROWER THAN 'FOR EVERY INPUT', by the rows' own cells (each row's printed sentence says how): FnCrdSend: ifaces, laid · FnCrdTake: ifaces, laid · FnCrdGrant: ifaces, laid · FnCrdHear: ifaces, laid.
  DERIVED. THE GIVEN ROWS OF THIS SEAT. 4 by the template 'for every input the law returns true; each argument reads behind the call as it read before'; 0 by the template 'total and deterministic' (their statements: YtejafihfbncaoaaDoorTotals.lean).
  GIVEN WITH THE SEED: the statements are not yours to turn. If you find one false, say at which input.
  Laid BY PROGRAM, IN A SANDBOX (cutbox-rows.mjs): the forced cells as the released guide's own fill.sh prints them over the translation 9f403305d718c684… (all of the seat's roots in one cut). By AI agents, Wed Nov 11 2026. No macro, syntax, notation, axiom, sorry.
-/
import Derived.Test.YtejafihfbncaoaaDoorChecked
import GoSem.Claim
import GoSem.ClaimJoined
import GoSem.ClaimMapViews
import Derived.JoinedTies
import Derived.KernelRfl
namespace Go.Proofs.YtejafihfbncaoaaDoor
/- THE CELL 'sum', in the pinned program and in every row, IS THE sha256 OF THE DUMP (.gsa) THAT YtejafihfbncaoaaDoorProg.lean LOADS. Nothing in Lean hashes anything: it is a label: what it is worth is what the hold of that sum in a sandbox is worth. -/
noncomputable def Tryd.pinned : Pinned := { name := "ytejafihfbncaoaadoor", sum := "9f403305d718c684755640df2247a1adacb637e56b28e5410f67034d5b401b8c", checked := Tryd.checked }
namespace Rows
def none {H : Type} : Left H := { results := [], args := [] }

/- WHAT THE LISTED PACKAGE-LEVEL VARIABLES READ AS WHEN THE CALL BEGINS. Each datum BY PROGRAM (the guide's laid-datum.mjs) off the statement by which the dump's own 'gosem.cut.vars' lays the variable. In a bare row this is a premise. The card (YtejafihfbncaoaaDoorCards.lean) ties it to the program's text. -/
def laid_loop_example_linkboy_impl_errNoCredit {H : Type} : DataW H := .iface "*errors.errorString" (.ptr (.agg [.lit (.string [116, 104, 101, 114, 101, 32, 105, 115, 32, 110, 111, 32, 99, 114, 101, 100, 105, 116, 32, 102, 111, 114, 32, 97, 32, 112, 105, 101, 99, 101])]))
def laid_loop_example_linkboy_impl_errNoGrant {H : Type} : DataW H := .iface "*errors.errorString" (.ptr (.agg [.lit (.string [115, 111, 32, 109, 97, 110, 121, 32, 97, 114, 101, 32, 110, 111, 32, 103, 114, 97, 110, 116])]))
def laid_loop_example_linkboy_impl_errTooMany {H : Type} : DataW H := .iface "*errors.errorString" (.ptr (.agg [.lit (.string [109, 111, 114, 101, 32, 99, 114, 101, 100, 105, 116, 115, 32, 116, 104, 97, 110, 32, 109, 97, 121, 32, 98, 101])]))
def laid_loop_example_linkboy_impl_errNoneMissing {H : Type} : DataW H := .iface "*errors.errorString" (.ptr (.agg [.lit (.string [97, 115, 32, 109, 97, 110, 121, 32, 99, 114, 101, 100, 105, 116, 115, 32, 97, 114, 101, 32, 111, 117, 116, 32, 97, 115, 32, 109, 97, 121, 32, 98, 101])]))

/-- 'laws.FnCrdSend': WHATEVER THE INPUT: true; the input reads as it did. -/
def fnCrdSendSpec : ChangeSpec := { name := "fnCrdSend", vars := ["loop.example/linkboy/impl.errNoCredit"], fn := fun _ => fun
  | [d, g1] => { results := [.lit (.bool true)], args := [d], vars := [g1] }
  | _ => none }
def fnCrdSendRow : OpenClaim := { program := "ytejafihfbncaoaadoor", sum := "9f403305d718c684755640df2247a1adacb637e56b28e5410f67034d5b401b8c", func := "loop.example/linkboy/laws.FnCrdSend", spec := "fnCrdSend", inPlace := ["internal/reflectlite.TypeOf"], unfollowed := true, recurses := true, named := ["loop.example/linkboy/impl.errNoCredit"], ifaces := true, apart := false, laid := [("loop.example/linkboy/impl.errNoCredit", laid_loop_example_linkboy_impl_errNoCredit)] }
def FnCrdSendSaid : Prop := fnCrdSendRow.holds Tryd.pinned (OpenSpec.ofChange fnCrdSendSpec)

/-- ITS FALSE NEIGHBOUR: 'it returns false'. Refute it at one input. -/
def fnCrdSendWrong : ChangeSpec := { name := "fnCrdSend", vars := ["loop.example/linkboy/impl.errNoCredit"], fn := fun _ => fun
  | [d, g1] => { results := [.lit (.bool false)], args := [d], vars := [g1] }
  | _ => none }
def FnCrdSendWrongFalsely : Prop := fnCrdSendRow.holds Tryd.pinned (OpenSpec.ofChange fnCrdSendWrong)

/-- 'laws.FnCrdTake': WHATEVER THE INPUT: true; the input reads as it did. -/
def fnCrdTakeSpec : ChangeSpec := { name := "fnCrdTake", vars := ["loop.example/linkboy/impl.errNoGrant", "loop.example/linkboy/impl.errTooMany"], fn := fun _ => fun
  | [d, g1, g2] => { results := [.lit (.bool true)], args := [d], vars := [g1, g2] }
  | _ => none }
def fnCrdTakeRow : OpenClaim := { program := "ytejafihfbncaoaadoor", sum := "9f403305d718c684755640df2247a1adacb637e56b28e5410f67034d5b401b8c", func := "loop.example/linkboy/laws.FnCrdTake", spec := "fnCrdTake", inPlace := ["internal/reflectlite.TypeOf"], unfollowed := true, recurses := true, named := ["loop.example/linkboy/impl.errNoGrant", "loop.example/linkboy/impl.errTooMany"], ifaces := true, apart := false, laid := [("loop.example/linkboy/impl.errNoGrant", laid_loop_example_linkboy_impl_errNoGrant), ("loop.example/linkboy/impl.errTooMany", laid_loop_example_linkboy_impl_errTooMany)] }
def FnCrdTakeSaid : Prop := fnCrdTakeRow.holds Tryd.pinned (OpenSpec.ofChange fnCrdTakeSpec)

/-- ITS FALSE NEIGHBOUR: 'it returns false'. Refute it at one input. -/
def fnCrdTakeWrong : ChangeSpec := { name := "fnCrdTake", vars := ["loop.example/linkboy/impl.errNoGrant", "loop.example/linkboy/impl.errTooMany"], fn := fun _ => fun
  | [d, g1, g2] => { results := [.lit (.bool false)], args := [d], vars := [g1, g2] }
  | _ => none }
def FnCrdTakeWrongFalsely : Prop := fnCrdTakeRow.holds Tryd.pinned (OpenSpec.ofChange fnCrdTakeWrong)

/-- 'laws.FnCrdGrant': WHATEVER THE INPUT: true; the input reads as it did. -/
def fnCrdGrantSpec : ChangeSpec := { name := "fnCrdGrant", vars := ["loop.example/linkboy/impl.errNoneMissing"], fn := fun _ => fun
  | [d, g1] => { results := [.lit (.bool true)], args := [d], vars := [g1] }
  | _ => none }
def fnCrdGrantRow : OpenClaim := { program := "ytejafihfbncaoaadoor", sum := "9f403305d718c684755640df2247a1adacb637e56b28e5410f67034d5b401b8c", func := "loop.example/linkboy/laws.FnCrdGrant", spec := "fnCrdGrant", inPlace := ["internal/reflectlite.TypeOf"], unfollowed := true, recurses := true, named := ["loop.example/linkboy/impl.errNoneMissing"], ifaces := true, apart := false, laid := [("loop.example/linkboy/impl.errNoneMissing", laid_loop_example_linkboy_impl_errNoneMissing)] }
def FnCrdGrantSaid : Prop := fnCrdGrantRow.holds Tryd.pinned (OpenSpec.ofChange fnCrdGrantSpec)

/-- ITS FALSE NEIGHBOUR: 'it returns false'. Refute it at one input. -/
def fnCrdGrantWrong : ChangeSpec := { name := "fnCrdGrant", vars := ["loop.example/linkboy/impl.errNoneMissing"], fn := fun _ => fun
  | [d, g1] => { results := [.lit (.bool false)], args := [d], vars := [g1] }
  | _ => none }
def FnCrdGrantWrongFalsely : Prop := fnCrdGrantRow.holds Tryd.pinned (OpenSpec.ofChange fnCrdGrantWrong)

/-- 'laws.FnCrdHear': WHATEVER THE INPUT: true; the input reads as it did. -/
def fnCrdHearSpec : ChangeSpec := { name := "fnCrdHear", vars := ["loop.example/linkboy/impl.errNoCredit"], fn := fun _ => fun
  | [d, g1] => { results := [.lit (.bool true)], args := [d], vars := [g1] }
  | _ => none }
def fnCrdHearRow : OpenClaim := { program := "ytejafihfbncaoaadoor", sum := "9f403305d718c684755640df2247a1adacb637e56b28e5410f67034d5b401b8c", func := "loop.example/linkboy/laws.FnCrdHear", spec := "fnCrdHear", inPlace := ["internal/reflectlite.TypeOf"], unfollowed := true, recurses := true, named := ["loop.example/linkboy/impl.errNoCredit"], ifaces := true, apart := false, laid := [("loop.example/linkboy/impl.errNoCredit", laid_loop_example_linkboy_impl_errNoCredit)] }
def FnCrdHearSaid : Prop := fnCrdHearRow.holds Tryd.pinned (OpenSpec.ofChange fnCrdHearSpec)

/-- ITS FALSE NEIGHBOUR: 'it returns false'. Refute it at one input. -/
def fnCrdHearWrong : ChangeSpec := { name := "fnCrdHear", vars := ["loop.example/linkboy/impl.errNoCredit"], fn := fun _ => fun
  | [d, g1] => { results := [.lit (.bool false)], args := [d], vars := [g1] }
  | _ => none }
def FnCrdHearWrongFalsely : Prop := fnCrdHearRow.holds Tryd.pinned (OpenSpec.ofChange fnCrdHearWrong)

/- THE SECOND FORM. 'bulk': how many values and letters a reading holds, each counted each time it is reached (what is shared counts as often as it is met; a slice's spare places count too). A statement '..UptoSaid' is the law's where the arguments, and the package variables that the reading takes, are together of bulk at most 1048576: NARROWER than '..Said'. Prove '..Said' where nothing that the law and all that it calls make is longer than what came in: it says more and counts as full. Else prove '..UptoSaid'. A law counts once. -/
mutual
def uptoBulk {H : Type} : DataW H → Nat
  | .lit (.string bytes) => bytes.length + 1
  | .lit _ => 1
  | .nil => 1
  | .ptr d => uptoBulk d + 1
  | .slice elems spare => uptoBulkAll elems + uptoBulkAll spare + 1
  | .agg parts => uptoBulkAll parts + 1
  | .iface _ d => uptoBulk d + 1
  | .map entries => uptoBulkEntries entries + 1
  | .held _ => 1
def uptoBulkAll {H : Type} : List (DataW H) → Nat
  | [] => 0
  | d :: r => uptoBulk d + uptoBulkAll r
def uptoBulkEntries {H : Type} : List (Lit × DataW H) → Nat
  | [] => 0
  | x :: r => uptoBulkEntry x + uptoBulkEntries r
def uptoBulkEntry {H : Type} : Lit × DataW H → Nat
  | (.string bytes, d) => bytes.length + uptoBulk d + 1
  | (_, d) => uptoBulk d + 1
 end
def uptoSmall : (H : Type) → List (DataW H) → Bool := fun _ ds => decide (uptoBulkAll ds ≤ 1048576)
def OpenSpec.upto (s : _root_.Go.ChangeSpec) : _root_.Go.OpenSpec := { _root_.Go.OpenSpec.ofChange s with cond := some uptoSmall }

/-- 'laws.FnCrdSend', WHERE WHAT IT READS IS OF BULK AT MOST 1048576: true; the input reads as it did. -/
def fnCrdSendUptoRow : OpenClaim := { program := "ytejafihfbncaoaadoor", sum := "9f403305d718c684755640df2247a1adacb637e56b28e5410f67034d5b401b8c", func := "loop.example/linkboy/laws.FnCrdSend", spec := "fnCrdSend", inPlace := ["internal/reflectlite.TypeOf"], unfollowed := true, recurses := true, named := ["loop.example/linkboy/impl.errNoCredit"], ifaces := true, apart := false, laid := [("loop.example/linkboy/impl.errNoCredit", laid_loop_example_linkboy_impl_errNoCredit)], narrowed := true }
def FnCrdSendUptoSaid : Prop := fnCrdSendUptoRow.holds Tryd.pinned (OpenSpec.upto fnCrdSendSpec)

/-- 'laws.FnCrdTake', WHERE WHAT IT READS IS OF BULK AT MOST 1048576: true; the input reads as it did. -/
def fnCrdTakeUptoRow : OpenClaim := { program := "ytejafihfbncaoaadoor", sum := "9f403305d718c684755640df2247a1adacb637e56b28e5410f67034d5b401b8c", func := "loop.example/linkboy/laws.FnCrdTake", spec := "fnCrdTake", inPlace := ["internal/reflectlite.TypeOf"], unfollowed := true, recurses := true, named := ["loop.example/linkboy/impl.errNoGrant", "loop.example/linkboy/impl.errTooMany"], ifaces := true, apart := false, laid := [("loop.example/linkboy/impl.errNoGrant", laid_loop_example_linkboy_impl_errNoGrant), ("loop.example/linkboy/impl.errTooMany", laid_loop_example_linkboy_impl_errTooMany)], narrowed := true }
def FnCrdTakeUptoSaid : Prop := fnCrdTakeUptoRow.holds Tryd.pinned (OpenSpec.upto fnCrdTakeSpec)

/-- 'laws.FnCrdGrant', WHERE WHAT IT READS IS OF BULK AT MOST 1048576: true; the input reads as it did. -/
def fnCrdGrantUptoRow : OpenClaim := { program := "ytejafihfbncaoaadoor", sum := "9f403305d718c684755640df2247a1adacb637e56b28e5410f67034d5b401b8c", func := "loop.example/linkboy/laws.FnCrdGrant", spec := "fnCrdGrant", inPlace := ["internal/reflectlite.TypeOf"], unfollowed := true, recurses := true, named := ["loop.example/linkboy/impl.errNoneMissing"], ifaces := true, apart := false, laid := [("loop.example/linkboy/impl.errNoneMissing", laid_loop_example_linkboy_impl_errNoneMissing)], narrowed := true }
def FnCrdGrantUptoSaid : Prop := fnCrdGrantUptoRow.holds Tryd.pinned (OpenSpec.upto fnCrdGrantSpec)

/-- 'laws.FnCrdHear', WHERE WHAT IT READS IS OF BULK AT MOST 1048576: true; the input reads as it did. -/
def fnCrdHearUptoRow : OpenClaim := { program := "ytejafihfbncaoaadoor", sum := "9f403305d718c684755640df2247a1adacb637e56b28e5410f67034d5b401b8c", func := "loop.example/linkboy/laws.FnCrdHear", spec := "fnCrdHear", inPlace := ["internal/reflectlite.TypeOf"], unfollowed := true, recurses := true, named := ["loop.example/linkboy/impl.errNoCredit"], ifaces := true, apart := false, laid := [("loop.example/linkboy/impl.errNoCredit", laid_loop_example_linkboy_impl_errNoCredit)], narrowed := true }
def FnCrdHearUptoSaid : Prop := fnCrdHearUptoRow.holds Tryd.pinned (OpenSpec.upto fnCrdHearSpec)

end Rows
end Go.Proofs.YtejafihfbncaoaaDoor
