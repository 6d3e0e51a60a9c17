/-
  No cell of these rows narrows 'for every input' (looked for: loops, veiled, ifaces, maps, wideKeys, modest, calm, conditions, laid).
  DERIVED. THE GIVEN ROWS OF THIS SEAT. 6 by the template 'for every input the law returns true; each argument reads behind the call as it read before'; 0 by the template 'total and deterministic' (their statements: YteennkfgnbhhhaaTotals.lean).
  GIVEN WITH THE SEED: the statements are not yours to turn. If you find one false, say at which input.
  Laid BY PROGRAM, IN A SANDBOX (cutbox-rows.mjs): the forced cells as the released guide's own fill.sh prints them over the translation b6d80b2a8c341b60… (all of the seat's roots in one cut). By AI agents, Wed Nov 11 2026. No macro, syntax, notation, axiom, sorry.
-/
import Derived.Test.YteennkfgnbhhhaaChecked
import GoSem.Claim
import GoSem.ClaimJoined
import GoSem.ClaimMapViews
import Derived.JoinedTies
import Derived.KernelRfl
namespace Go.Proofs.Yteennkfgnbhhhaa
/- THE CELL 'sum', in the pinned program and in every row, IS THE sha256 OF THE DUMP (.gsa) THAT YteennkfgnbhhhaaProg.lean LOADS. Nothing in Lean hashes anything: it is a label: what it is worth is what the hold of that sum in a sandbox is worth. -/
noncomputable def Try.pinned : Pinned := { name := "yteennkfgnbhhhaa", sum := "b6d80b2a8c341b6054caeb131500787395156adcd682e6852050c82f2c0e243c", checked := Try.checked }
namespace Rows
def none {H : Type} : Left H := { results := [], args := [] }

/-- 'laws.FnNumFar': WHATEVER THE INPUT: true; the input reads as it did. -/
def fnNumFarSpec : ChangeSpec := { name := "fnNumFar", fn := fun _ => fun
  | [d] => { results := [.lit (.bool true)], args := [d] }
  | _ => none }
def fnNumFarRow : OpenClaim := { program := "yteennkfgnbhhhaa", sum := "b6d80b2a8c341b6054caeb131500787395156adcd682e6852050c82f2c0e243c", func := "loop.example/linkboy/laws.FnNumFar", spec := "fnNumFar", apart := false }
def FnNumFarSaid : Prop := fnNumFarRow.holds Try.pinned (OpenSpec.ofChange fnNumFarSpec)

/-- ITS FALSE NEIGHBOUR: 'it returns false'. Refute it at one input. -/
def fnNumFarWrong : ChangeSpec := { name := "fnNumFar", fn := fun _ => fun
  | [d] => { results := [.lit (.bool false)], args := [d] }
  | _ => none }
def FnNumFarWrongFalsely : Prop := fnNumFarRow.holds Try.pinned (OpenSpec.ofChange fnNumFarWrong)

/-- 'laws.FnNumOf': WHATEVER THE INPUT: true; the input reads as it did. -/
def fnNumOfSpec : ChangeSpec := { name := "fnNumOf", fn := fun _ => fun
  | [d] => { results := [.lit (.bool true)], args := [d] }
  | _ => none }
def fnNumOfRow : OpenClaim := { program := "yteennkfgnbhhhaa", sum := "b6d80b2a8c341b6054caeb131500787395156adcd682e6852050c82f2c0e243c", func := "loop.example/linkboy/laws.FnNumOf", spec := "fnNumOf", apart := false }
def FnNumOfSaid : Prop := fnNumOfRow.holds Try.pinned (OpenSpec.ofChange fnNumOfSpec)

/-- ITS FALSE NEIGHBOUR: 'it returns false'. Refute it at one input. -/
def fnNumOfWrong : ChangeSpec := { name := "fnNumOf", fn := fun _ => fun
  | [d] => { results := [.lit (.bool false)], args := [d] }
  | _ => none }
def FnNumOfWrongFalsely : Prop := fnNumOfRow.holds Try.pinned (OpenSpec.ofChange fnNumOfWrong)

/-- 'laws.FnNumWay': WHATEVER THE INPUT: true; the input reads as it did. -/
def fnNumWaySpec : ChangeSpec := { name := "fnNumWay", fn := fun _ => fun
  | [d1, d2] => { results := [.lit (.bool true)], args := [d1, d2] }
  | _ => none }
def fnNumWayRow : OpenClaim := { program := "yteennkfgnbhhhaa", sum := "b6d80b2a8c341b6054caeb131500787395156adcd682e6852050c82f2c0e243c", func := "loop.example/linkboy/laws.FnNumWay", spec := "fnNumWay", apart := false }
def FnNumWaySaid : Prop := fnNumWayRow.holds Try.pinned (OpenSpec.ofChange fnNumWaySpec)

/-- ITS FALSE NEIGHBOUR: 'it returns false'. Refute it at one input. -/
def fnNumWayWrong : ChangeSpec := { name := "fnNumWay", fn := fun _ => fun
  | [d1, d2] => { results := [.lit (.bool false)], args := [d1, d2] }
  | _ => none }
def FnNumWayWrongFalsely : Prop := fnNumWayRow.holds Try.pinned (OpenSpec.ofChange fnNumWayWrong)

/-- 'laws.FnPartOk': WHATEVER THE INPUT: true; the input reads as it did. -/
def fnPartOkSpec : ChangeSpec := { name := "fnPartOk", fn := fun _ => fun
  | [d] => { results := [.lit (.bool true)], args := [d] }
  | _ => none }
def fnPartOkRow : OpenClaim := { program := "yteennkfgnbhhhaa", sum := "b6d80b2a8c341b6054caeb131500787395156adcd682e6852050c82f2c0e243c", func := "loop.example/linkboy/laws.FnPartOk", spec := "fnPartOk", apart := false }
def FnPartOkSaid : Prop := fnPartOkRow.holds Try.pinned (OpenSpec.ofChange fnPartOkSpec)

/-- ITS FALSE NEIGHBOUR: 'it returns false'. Refute it at one input. -/
def fnPartOkWrong : ChangeSpec := { name := "fnPartOk", fn := fun _ => fun
  | [d] => { results := [.lit (.bool false)], args := [d] }
  | _ => none }
def FnPartOkWrongFalsely : Prop := fnPartOkRow.holds Try.pinned (OpenSpec.ofChange fnPartOkWrong)

/-- 'laws.FnJoinOk': WHATEVER THE INPUT: true; the input reads as it did. -/
def fnJoinOkSpec : ChangeSpec := { name := "fnJoinOk", fn := fun _ => fun
  | [d] => { results := [.lit (.bool true)], args := [d] }
  | _ => none }
def fnJoinOkRow : OpenClaim := { program := "yteennkfgnbhhhaa", sum := "b6d80b2a8c341b6054caeb131500787395156adcd682e6852050c82f2c0e243c", func := "loop.example/linkboy/laws.FnJoinOk", spec := "fnJoinOk", apart := false }
def FnJoinOkSaid : Prop := fnJoinOkRow.holds Try.pinned (OpenSpec.ofChange fnJoinOkSpec)

/-- ITS FALSE NEIGHBOUR: 'it returns false'. Refute it at one input. -/
def fnJoinOkWrong : ChangeSpec := { name := "fnJoinOk", fn := fun _ => fun
  | [d] => { results := [.lit (.bool false)], args := [d] }
  | _ => none }
def FnJoinOkWrongFalsely : Prop := fnJoinOkRow.holds Try.pinned (OpenSpec.ofChange fnJoinOkWrong)

/-- 'laws.FnCrcStep': WHATEVER THE INPUT: true; the input reads as it did. -/
def fnCrcStepSpec : ChangeSpec := { name := "fnCrcStep", fn := fun _ => fun
  | [d1, d2] => { results := [.lit (.bool true)], args := [d1, d2] }
  | _ => none }
def fnCrcStepRow : OpenClaim := { program := "yteennkfgnbhhhaa", sum := "b6d80b2a8c341b6054caeb131500787395156adcd682e6852050c82f2c0e243c", func := "loop.example/linkboy/laws.FnCrcStep", spec := "fnCrcStep", apart := false }
def FnCrcStepSaid : Prop := fnCrcStepRow.holds Try.pinned (OpenSpec.ofChange fnCrcStepSpec)

/-- ITS FALSE NEIGHBOUR: 'it returns false'. Refute it at one input. -/
def fnCrcStepWrong : ChangeSpec := { name := "fnCrcStep", fn := fun _ => fun
  | [d1, d2] => { results := [.lit (.bool false)], args := [d1, d2] }
  | _ => none }
def FnCrcStepWrongFalsely : Prop := fnCrcStepRow.holds Try.pinned (OpenSpec.ofChange fnCrcStepWrong)

/- THE SECOND FORM. 'bulk': how many values and letters a reading holds, each counted each time it is reached (what is shared counts as often as it is met; a slice's spare places count too). A statement '..UptoSaid' is the law's where the arguments, and the package variables that the reading takes, are together of bulk at most 1048576: NARROWER than '..Said'. Prove '..Said' where nothing that the law and all that it calls make is longer than what came in: it says more and counts as full. Else prove '..UptoSaid'. A law counts once. -/
mutual
def uptoBulk {H : Type} : DataW H → Nat
  | .lit (.string bytes) => bytes.length + 1
  | .lit _ => 1
  | .nil => 1
  | .ptr d => uptoBulk d + 1
  | .slice elems spare => uptoBulkAll elems + uptoBulkAll spare + 1
  | .agg parts => uptoBulkAll parts + 1
  | .iface _ d => uptoBulk d + 1
  | .map entries => uptoBulkEntries entries + 1
  | .held _ => 1
def uptoBulkAll {H : Type} : List (DataW H) → Nat
  | [] => 0
  | d :: r => uptoBulk d + uptoBulkAll r
def uptoBulkEntries {H : Type} : List (Lit × DataW H) → Nat
  | [] => 0
  | x :: r => uptoBulkEntry x + uptoBulkEntries r
def uptoBulkEntry {H : Type} : Lit × DataW H → Nat
  | (.string bytes, d) => bytes.length + uptoBulk d + 1
  | (_, d) => uptoBulk d + 1
 end
def uptoSmall : (H : Type) → List (DataW H) → Bool := fun _ ds => decide (uptoBulkAll ds ≤ 1048576)
def OpenSpec.upto (s : _root_.Go.ChangeSpec) : _root_.Go.OpenSpec := { _root_.Go.OpenSpec.ofChange s with cond := some uptoSmall }

/-- 'laws.FnNumFar', WHERE WHAT IT READS IS OF BULK AT MOST 1048576: true; the input reads as it did. -/
def fnNumFarUptoRow : OpenClaim := { program := "yteennkfgnbhhhaa", sum := "b6d80b2a8c341b6054caeb131500787395156adcd682e6852050c82f2c0e243c", func := "loop.example/linkboy/laws.FnNumFar", spec := "fnNumFar", apart := false, narrowed := true }
def FnNumFarUptoSaid : Prop := fnNumFarUptoRow.holds Try.pinned (OpenSpec.upto fnNumFarSpec)

/-- 'laws.FnNumOf', WHERE WHAT IT READS IS OF BULK AT MOST 1048576: true; the input reads as it did. -/
def fnNumOfUptoRow : OpenClaim := { program := "yteennkfgnbhhhaa", sum := "b6d80b2a8c341b6054caeb131500787395156adcd682e6852050c82f2c0e243c", func := "loop.example/linkboy/laws.FnNumOf", spec := "fnNumOf", apart := false, narrowed := true }
def FnNumOfUptoSaid : Prop := fnNumOfUptoRow.holds Try.pinned (OpenSpec.upto fnNumOfSpec)

/-- 'laws.FnNumWay', WHERE WHAT IT READS IS OF BULK AT MOST 1048576: true; the input reads as it did. -/
def fnNumWayUptoRow : OpenClaim := { program := "yteennkfgnbhhhaa", sum := "b6d80b2a8c341b6054caeb131500787395156adcd682e6852050c82f2c0e243c", func := "loop.example/linkboy/laws.FnNumWay", spec := "fnNumWay", apart := false, narrowed := true }
def FnNumWayUptoSaid : Prop := fnNumWayUptoRow.holds Try.pinned (OpenSpec.upto fnNumWaySpec)

/-- 'laws.FnPartOk', WHERE WHAT IT READS IS OF BULK AT MOST 1048576: true; the input reads as it did. -/
def fnPartOkUptoRow : OpenClaim := { program := "yteennkfgnbhhhaa", sum := "b6d80b2a8c341b6054caeb131500787395156adcd682e6852050c82f2c0e243c", func := "loop.example/linkboy/laws.FnPartOk", spec := "fnPartOk", apart := false, narrowed := true }
def FnPartOkUptoSaid : Prop := fnPartOkUptoRow.holds Try.pinned (OpenSpec.upto fnPartOkSpec)

/-- 'laws.FnJoinOk', WHERE WHAT IT READS IS OF BULK AT MOST 1048576: true; the input reads as it did. -/
def fnJoinOkUptoRow : OpenClaim := { program := "yteennkfgnbhhhaa", sum := "b6d80b2a8c341b6054caeb131500787395156adcd682e6852050c82f2c0e243c", func := "loop.example/linkboy/laws.FnJoinOk", spec := "fnJoinOk", apart := false, narrowed := true }
def FnJoinOkUptoSaid : Prop := fnJoinOkUptoRow.holds Try.pinned (OpenSpec.upto fnJoinOkSpec)

/-- 'laws.FnCrcStep', WHERE WHAT IT READS IS OF BULK AT MOST 1048576: true; the input reads as it did. -/
def fnCrcStepUptoRow : OpenClaim := { program := "yteennkfgnbhhhaa", sum := "b6d80b2a8c341b6054caeb131500787395156adcd682e6852050c82f2c0e243c", func := "loop.example/linkboy/laws.FnCrcStep", spec := "fnCrcStep", apart := false, narrowed := true }
def FnCrcStepUptoSaid : Prop := fnCrcStepUptoRow.holds Try.pinned (OpenSpec.upto fnCrcStepSpec)

end Rows
end Go.Proofs.Yteennkfgnbhhhaa
