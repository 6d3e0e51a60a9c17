/-
  NARROWER THAN 'FOR EVERY INPUT', by the rows' own cells (each row's printed sentence says how): FnFrmBytes: ifaces, laid · FnCrdLimit: ifaces, laid.
  DERIVED. THE GIVEN ROWS OF THIS SEAT. 2 by the template 'for every input the law returns true; each argument reads behind the call as it read before'; 0 by the template 'total and deterministic' (their statements: YthnlpdjjnfkmeaaDoorTotals.lean).
  GIVEN WITH THE SEED: the statements are not yours to turn. If you find one false, say at which input.
  Laid BY PROGRAM, IN A SANDBOX (cutbox-rows.mjs): the forced cells as the released guide's own fill.sh prints them over the translation 2253c8e930f9c305… (all of the seat's roots in one cut). By AI agents, Wed Nov 11 2026. No macro, syntax, notation, axiom, sorry.
-/
import Derived.Test.YthnlpdjjnfkmeaaDoorChecked
import GoSem.Claim
import GoSem.ClaimJoined
import GoSem.ClaimMapViews
import Derived.JoinedTies
import Derived.KernelRfl
namespace Go.Proofs.YthnlpdjjnfkmeaaDoor
/- THE CELL 'sum', in the pinned program and in every row, IS THE sha256 OF THE DUMP (.gsa) THAT YthnlpdjjnfkmeaaDoorProg.lean LOADS. Nothing in Lean hashes anything: it is a label: what it is worth is what the hold of that sum in a sandbox is worth. -/
noncomputable def Tryd.pinned : Pinned := { name := "ythnlpdjjnfkmeaadoor", sum := "2253c8e930f9c3058356611b7479843dbf4960befa3368540519dca5b0f2b0ef", checked := Tryd.checked }
namespace Rows
def none {H : Type} : Left H := { results := [], args := [] }

/- WHAT THE LISTED PACKAGE-LEVEL VARIABLES READ AS WHEN THE CALL BEGINS. Each datum BY PROGRAM (the guide's laid-datum.mjs) off the statement by which the dump's own 'gosem.cut.vars' lays the variable. In a bare row this is a premise. The card (YthnlpdjjnfkmeaaDoorCards.lean) ties it to the program's text. -/
def laid_loop_example_linkboy_impl_errFrameSum {H : Type} : DataW H := .iface "*errors.errorString" (.ptr (.agg [.lit (.string [116, 104, 101, 32, 115, 117, 109, 32, 105, 115, 32, 110, 111, 116, 32, 116, 104, 97, 116, 32, 111, 102, 32, 116, 104, 101, 32, 98, 121, 116, 101, 115])]))
def laid_loop_example_linkboy_impl_errFrameFew {H : Type} : DataW H := .iface "*errors.errorString" (.ptr (.agg [.lit (.string [116, 111, 111, 32, 102, 101, 119, 32, 98, 121, 116, 101, 115])]))
def laid_loop_example_linkboy_impl_errFrameMany {H : Type} : DataW H := .iface "*errors.errorString" (.ptr (.agg [.lit (.string [98, 121, 116, 101, 115, 32, 98, 101, 104, 105, 110, 100, 32, 116, 104, 101, 32, 101, 110, 100])]))
def laid_loop_example_linkboy_impl_errNoCredit {H : Type} : DataW H := .iface "*errors.errorString" (.ptr (.agg [.lit (.string [116, 104, 101, 114, 101, 32, 105, 115, 32, 110, 111, 32, 99, 114, 101, 100, 105, 116, 32, 102, 111, 114, 32, 97, 32, 112, 105, 101, 99, 101])]))

/-- 'laws.FnFrmBytes': WHATEVER THE INPUT: true; the input reads as it did. -/
def fnFrmBytesSpec : ChangeSpec := { name := "fnFrmBytes", vars := ["loop.example/linkboy/impl.errFrameSum", "loop.example/linkboy/impl.errFrameFew", "loop.example/linkboy/impl.errFrameMany"], fn := fun _ => fun
  | [d1, d2, g1, g2, g3] => { results := [.lit (.bool true)], args := [d1, d2], vars := [g1, g2, g3] }
  | _ => none }
def fnFrmBytesRow : OpenClaim := { program := "ythnlpdjjnfkmeaadoor", sum := "2253c8e930f9c3058356611b7479843dbf4960befa3368540519dca5b0f2b0ef", func := "loop.example/linkboy/laws.FnFrmBytes", spec := "fnFrmBytes", unfollowed := true, recurses := true, named := ["loop.example/linkboy/impl.errFrameSum", "loop.example/linkboy/impl.errFrameFew", "loop.example/linkboy/impl.errFrameMany"], ifaces := true, apart := false, laid := [("loop.example/linkboy/impl.errFrameSum", laid_loop_example_linkboy_impl_errFrameSum), ("loop.example/linkboy/impl.errFrameFew", laid_loop_example_linkboy_impl_errFrameFew), ("loop.example/linkboy/impl.errFrameMany", laid_loop_example_linkboy_impl_errFrameMany)] }
def FnFrmBytesSaid : Prop := fnFrmBytesRow.holds Tryd.pinned (OpenSpec.ofChange fnFrmBytesSpec)

/-- ITS FALSE NEIGHBOUR: 'it returns false'. Refute it at one input. -/
def fnFrmBytesWrong : ChangeSpec := { name := "fnFrmBytes", vars := ["loop.example/linkboy/impl.errFrameSum", "loop.example/linkboy/impl.errFrameFew", "loop.example/linkboy/impl.errFrameMany"], fn := fun _ => fun
  | [d1, d2, g1, g2, g3] => { results := [.lit (.bool false)], args := [d1, d2], vars := [g1, g2, g3] }
  | _ => none }
def FnFrmBytesWrongFalsely : Prop := fnFrmBytesRow.holds Tryd.pinned (OpenSpec.ofChange fnFrmBytesWrong)

/-- 'laws.FnCrdLimit': WHATEVER THE INPUT: true; the input reads as it did. -/
def fnCrdLimitSpec : ChangeSpec := { name := "fnCrdLimit", vars := ["loop.example/linkboy/impl.errNoCredit"], fn := fun _ => fun
  | [d, g1] => { results := [.lit (.bool true)], args := [d], vars := [g1] }
  | _ => none }
def fnCrdLimitRow : OpenClaim := { program := "ythnlpdjjnfkmeaadoor", sum := "2253c8e930f9c3058356611b7479843dbf4960befa3368540519dca5b0f2b0ef", func := "loop.example/linkboy/laws.FnCrdLimit", spec := "fnCrdLimit", inPlace := ["internal/reflectlite.TypeOf"], unfollowed := true, recurses := true, named := ["loop.example/linkboy/impl.errNoCredit"], ifaces := true, apart := false, laid := [("loop.example/linkboy/impl.errNoCredit", laid_loop_example_linkboy_impl_errNoCredit)] }
def FnCrdLimitSaid : Prop := fnCrdLimitRow.holds Tryd.pinned (OpenSpec.ofChange fnCrdLimitSpec)

/-- ITS FALSE NEIGHBOUR: 'it returns false'. Refute it at one input. -/
def fnCrdLimitWrong : ChangeSpec := { name := "fnCrdLimit", vars := ["loop.example/linkboy/impl.errNoCredit"], fn := fun _ => fun
  | [d, g1] => { results := [.lit (.bool false)], args := [d], vars := [g1] }
  | _ => none }
def FnCrdLimitWrongFalsely : Prop := fnCrdLimitRow.holds Tryd.pinned (OpenSpec.ofChange fnCrdLimitWrong)

/- THE SECOND FORM. 'bulk': how many values and letters a reading holds, each counted each time it is reached (what is shared counts as often as it is met; a slice's spare places count too). A statement '..UptoSaid' is the law's where the arguments, and the package variables that the reading takes, are together of bulk at most 1048576: NARROWER than '..Said'. Prove '..Said' where nothing that the law and all that it calls make is longer than what came in: it says more and counts as full. Else prove '..UptoSaid'. A law counts once. -/
mutual
def uptoBulk {H : Type} : DataW H → Nat
  | .lit (.string bytes) => bytes.length + 1
  | .lit _ => 1
  | .nil => 1
  | .ptr d => uptoBulk d + 1
  | .slice elems spare => uptoBulkAll elems + uptoBulkAll spare + 1
  | .agg parts => uptoBulkAll parts + 1
  | .iface _ d => uptoBulk d + 1
  | .map entries => uptoBulkEntries entries + 1
  | .held _ => 1
def uptoBulkAll {H : Type} : List (DataW H) → Nat
  | [] => 0
  | d :: r => uptoBulk d + uptoBulkAll r
def uptoBulkEntries {H : Type} : List (Lit × DataW H) → Nat
  | [] => 0
  | x :: r => uptoBulkEntry x + uptoBulkEntries r
def uptoBulkEntry {H : Type} : Lit × DataW H → Nat
  | (.string bytes, d) => bytes.length + uptoBulk d + 1
  | (_, d) => uptoBulk d + 1
 end
def uptoSmall : (H : Type) → List (DataW H) → Bool := fun _ ds => decide (uptoBulkAll ds ≤ 1048576)
def OpenSpec.upto (s : _root_.Go.ChangeSpec) : _root_.Go.OpenSpec := { _root_.Go.OpenSpec.ofChange s with cond := some uptoSmall }

/-- 'laws.FnFrmBytes', WHERE WHAT IT READS IS OF BULK AT MOST 1048576: true; the input reads as it did. -/
def fnFrmBytesUptoRow : OpenClaim := { program := "ythnlpdjjnfkmeaadoor", sum := "2253c8e930f9c3058356611b7479843dbf4960befa3368540519dca5b0f2b0ef", func := "loop.example/linkboy/laws.FnFrmBytes", spec := "fnFrmBytes", unfollowed := true, recurses := true, named := ["loop.example/linkboy/impl.errFrameSum", "loop.example/linkboy/impl.errFrameFew", "loop.example/linkboy/impl.errFrameMany"], ifaces := true, apart := false, laid := [("loop.example/linkboy/impl.errFrameSum", laid_loop_example_linkboy_impl_errFrameSum), ("loop.example/linkboy/impl.errFrameFew", laid_loop_example_linkboy_impl_errFrameFew), ("loop.example/linkboy/impl.errFrameMany", laid_loop_example_linkboy_impl_errFrameMany)], narrowed := true }
def FnFrmBytesUptoSaid : Prop := fnFrmBytesUptoRow.holds Tryd.pinned (OpenSpec.upto fnFrmBytesSpec)

/-- 'laws.FnCrdLimit', WHERE WHAT IT READS IS OF BULK AT MOST 1048576: true; the input reads as it did. -/
def fnCrdLimitUptoRow : OpenClaim := { program := "ythnlpdjjnfkmeaadoor", sum := "2253c8e930f9c3058356611b7479843dbf4960befa3368540519dca5b0f2b0ef", func := "loop.example/linkboy/laws.FnCrdLimit", spec := "fnCrdLimit", inPlace := ["internal/reflectlite.TypeOf"], unfollowed := true, recurses := true, named := ["loop.example/linkboy/impl.errNoCredit"], ifaces := true, apart := false, laid := [("loop.example/linkboy/impl.errNoCredit", laid_loop_example_linkboy_impl_errNoCredit)], narrowed := true }
def FnCrdLimitUptoSaid : Prop := fnCrdLimitUptoRow.holds Tryd.pinned (OpenSpec.upto fnCrdLimitSpec)

end Rows
end Go.Proofs.YthnlpdjjnfkmeaaDoor
