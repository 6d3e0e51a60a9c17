/-
  No cell of these rows narrows 'for every input' (looked for: loops, veiled, ifaces, maps, wideKeys, modest, calm, conditions, laid).
  DERIVED. THE GIVEN ROWS OF THIS SEAT. 7 by the template 'for every input the law returns true; each argument reads behind the call as it read before'; 0 by the template 'total and deterministic' (their statements: YtdjadeegjbhihaaTotals.lean).
  GIVEN WITH THE SEED: the statements are not yours to turn. If you find one false, say at which input.
  Laid BY PROGRAM, IN A SANDBOX (cutbox-rows.mjs): the forced cells as the released guide's own fill.sh prints them over the translation d7be35402b6782c9… (all of the seat's roots in one cut). By AI agents, Wed Nov 11 2026. No macro, syntax, notation, axiom, sorry.
-/
import Derived.Test.YtdjadeegjbhihaaChecked
import GoSem.Claim
import GoSem.ClaimJoined
import GoSem.ClaimMapViews
import Derived.JoinedTies
import Derived.KernelRfl
namespace Go.Proofs.Ytdjadeegjbhihaa
/- THE CELL 'sum', in the pinned program and in every row, IS THE sha256 OF THE DUMP (.gsa) THAT YtdjadeegjbhihaaProg.lean LOADS. Nothing in Lean hashes anything: it is a label: what it is worth is what the hold of that sum in a sandbox is worth. -/
noncomputable def Try.pinned : Pinned := { name := "ytdjadeegjbhihaa", sum := "d7be35402b6782c961ed973de31144d425416c1e706dff596177644493dd6455", checked := Try.checked }
namespace Rows
def none {H : Type} : Left H := { results := [], args := [] }

/-- 'laws.FnExactTxOk': WHATEVER THE INPUT: true; the input reads as it did. -/
def fnExactTxOkSpec : ChangeSpec := { name := "fnExactTxOk", fn := fun _ => fun
  | [d1, d2] => { results := [.lit (.bool true)], args := [d1, d2] }
  | _ => none }
def fnExactTxOkRow : OpenClaim := { program := "ytdjadeegjbhihaa", sum := "d7be35402b6782c961ed973de31144d425416c1e706dff596177644493dd6455", func := "loop.example/linkboy/laws.FnExactTxOk", spec := "fnExactTxOk", apart := false }
def FnExactTxOkSaid : Prop := fnExactTxOkRow.holds Try.pinned (OpenSpec.ofChange fnExactTxOkSpec)

/-- ITS FALSE NEIGHBOUR: 'it returns false'. Refute it at one input. -/
def fnExactTxOkWrong : ChangeSpec := { name := "fnExactTxOk", fn := fun _ => fun
  | [d1, d2] => { results := [.lit (.bool false)], args := [d1, d2] }
  | _ => none }
def FnExactTxOkWrongFalsely : Prop := fnExactTxOkRow.holds Try.pinned (OpenSpec.ofChange fnExactTxOkWrong)

/-- 'laws.FnExactTxLeft': WHATEVER THE INPUT: true; the input reads as it did. -/
def fnExactTxLeftSpec : ChangeSpec := { name := "fnExactTxLeft", fn := fun _ => fun
  | [d] => { results := [.lit (.bool true)], args := [d] }
  | _ => none }
def fnExactTxLeftRow : OpenClaim := { program := "ytdjadeegjbhihaa", sum := "d7be35402b6782c961ed973de31144d425416c1e706dff596177644493dd6455", func := "loop.example/linkboy/laws.FnExactTxLeft", spec := "fnExactTxLeft", apart := false }
def FnExactTxLeftSaid : Prop := fnExactTxLeftRow.holds Try.pinned (OpenSpec.ofChange fnExactTxLeftSpec)

/-- ITS FALSE NEIGHBOUR: 'it returns false'. Refute it at one input. -/
def fnExactTxLeftWrong : ChangeSpec := { name := "fnExactTxLeft", fn := fun _ => fun
  | [d] => { results := [.lit (.bool false)], args := [d] }
  | _ => none }
def FnExactTxLeftWrongFalsely : Prop := fnExactTxLeftRow.holds Try.pinned (OpenSpec.ofChange fnExactTxLeftWrong)

/-- 'laws.FnExactCrdTxOk': WHATEVER THE INPUT: true; the input reads as it did. -/
def fnExactCrdTxOkSpec : ChangeSpec := { name := "fnExactCrdTxOk", fn := fun _ => fun
  | [d1, d2] => { results := [.lit (.bool true)], args := [d1, d2] }
  | _ => none }
def fnExactCrdTxOkRow : OpenClaim := { program := "ytdjadeegjbhihaa", sum := "d7be35402b6782c961ed973de31144d425416c1e706dff596177644493dd6455", func := "loop.example/linkboy/laws.FnExactCrdTxOk", spec := "fnExactCrdTxOk", apart := false }
def FnExactCrdTxOkSaid : Prop := fnExactCrdTxOkRow.holds Try.pinned (OpenSpec.ofChange fnExactCrdTxOkSpec)

/-- ITS FALSE NEIGHBOUR: 'it returns false'. Refute it at one input. -/
def fnExactCrdTxOkWrong : ChangeSpec := { name := "fnExactCrdTxOk", fn := fun _ => fun
  | [d1, d2] => { results := [.lit (.bool false)], args := [d1, d2] }
  | _ => none }
def FnExactCrdTxOkWrongFalsely : Prop := fnExactCrdTxOkRow.holds Try.pinned (OpenSpec.ofChange fnExactCrdTxOkWrong)

/-- 'laws.FnExactWldOk': WHATEVER THE INPUT: true; the input reads as it did. -/
def fnExactWldOkSpec : ChangeSpec := { name := "fnExactWldOk", fn := fun _ => fun
  | [d] => { results := [.lit (.bool true)], args := [d] }
  | _ => none }
def fnExactWldOkRow : OpenClaim := { program := "ytdjadeegjbhihaa", sum := "d7be35402b6782c961ed973de31144d425416c1e706dff596177644493dd6455", func := "loop.example/linkboy/laws.FnExactWldOk", spec := "fnExactWldOk", unfollowed := true, recurses := true, apart := false }
def FnExactWldOkSaid : Prop := fnExactWldOkRow.holds Try.pinned (OpenSpec.ofChange fnExactWldOkSpec)

/-- ITS FALSE NEIGHBOUR: 'it returns false'. Refute it at one input. -/
def fnExactWldOkWrong : ChangeSpec := { name := "fnExactWldOk", fn := fun _ => fun
  | [d] => { results := [.lit (.bool false)], args := [d] }
  | _ => none }
def FnExactWldOkWrongFalsely : Prop := fnExactWldOkRow.holds Try.pinned (OpenSpec.ofChange fnExactWldOkWrong)

/-- 'laws.FnExactWldDead': WHATEVER THE INPUT: true; the input reads as it did. -/
def fnExactWldDeadSpec : ChangeSpec := { name := "fnExactWldDead", fn := fun _ => fun
  | [d] => { results := [.lit (.bool true)], args := [d] }
  | _ => none }
def fnExactWldDeadRow : OpenClaim := { program := "ytdjadeegjbhihaa", sum := "d7be35402b6782c961ed973de31144d425416c1e706dff596177644493dd6455", func := "loop.example/linkboy/laws.FnExactWldDead", spec := "fnExactWldDead", unfollowed := true, recurses := true, apart := false }
def FnExactWldDeadSaid : Prop := fnExactWldDeadRow.holds Try.pinned (OpenSpec.ofChange fnExactWldDeadSpec)

/-- ITS FALSE NEIGHBOUR: 'it returns false'. Refute it at one input. -/
def fnExactWldDeadWrong : ChangeSpec := { name := "fnExactWldDead", fn := fun _ => fun
  | [d] => { results := [.lit (.bool false)], args := [d] }
  | _ => none }
def FnExactWldDeadWrongFalsely : Prop := fnExactWldDeadRow.holds Try.pinned (OpenSpec.ofChange fnExactWldDeadWrong)

/-- 'laws.FnExactWldNew': WHATEVER THE INPUT: true; the input reads as it did. -/
def fnExactWldNewSpec : ChangeSpec := { name := "fnExactWldNew", fn := fun _ => fun
  | [d] => { results := [.lit (.bool true)], args := [d] }
  | _ => none }
def fnExactWldNewRow : OpenClaim := { program := "ytdjadeegjbhihaa", sum := "d7be35402b6782c961ed973de31144d425416c1e706dff596177644493dd6455", func := "loop.example/linkboy/laws.FnExactWldNew", spec := "fnExactWldNew", apart := false }
def FnExactWldNewSaid : Prop := fnExactWldNewRow.holds Try.pinned (OpenSpec.ofChange fnExactWldNewSpec)

/-- ITS FALSE NEIGHBOUR: 'it returns false'. Refute it at one input. -/
def fnExactWldNewWrong : ChangeSpec := { name := "fnExactWldNew", fn := fun _ => fun
  | [d] => { results := [.lit (.bool false)], args := [d] }
  | _ => none }
def FnExactWldNewWrongFalsely : Prop := fnExactWldNewRow.holds Try.pinned (OpenSpec.ofChange fnExactWldNewWrong)

/-- 'laws.FnWldNew': WHATEVER THE INPUT: true; the input reads as it did. -/
def fnWldNewSpec : ChangeSpec := { name := "fnWldNew", fn := fun _ => fun
  | [d] => { results := [.lit (.bool true)], args := [d] }
  | _ => none }
def fnWldNewRow : OpenClaim := { program := "ytdjadeegjbhihaa", sum := "d7be35402b6782c961ed973de31144d425416c1e706dff596177644493dd6455", func := "loop.example/linkboy/laws.FnWldNew", spec := "fnWldNew", unfollowed := true, recurses := true, apart := false }
def FnWldNewSaid : Prop := fnWldNewRow.holds Try.pinned (OpenSpec.ofChange fnWldNewSpec)

/-- ITS FALSE NEIGHBOUR: 'it returns false'. Refute it at one input. -/
def fnWldNewWrong : ChangeSpec := { name := "fnWldNew", fn := fun _ => fun
  | [d] => { results := [.lit (.bool false)], args := [d] }
  | _ => none }
def FnWldNewWrongFalsely : Prop := fnWldNewRow.holds Try.pinned (OpenSpec.ofChange fnWldNewWrong)

/- THE SECOND FORM. 'bulk': how many values and letters a reading holds, each counted each time it is reached (what is shared counts as often as it is met; a slice's spare places count too). A statement '..UptoSaid' is the law's where the arguments, and the package variables that the reading takes, are together of bulk at most 1048576: NARROWER than '..Said'. Prove '..Said' where nothing that the law and all that it calls make is longer than what came in: it says more and counts as full. Else prove '..UptoSaid'. A law counts once. -/
mutual
def uptoBulk {H : Type} : DataW H → Nat
  | .lit (.string bytes) => bytes.length + 1
  | .lit _ => 1
  | .nil => 1
  | .ptr d => uptoBulk d + 1
  | .slice elems spare => uptoBulkAll elems + uptoBulkAll spare + 1
  | .agg parts => uptoBulkAll parts + 1
  | .iface _ d => uptoBulk d + 1
  | .map entries => uptoBulkEntries entries + 1
  | .held _ => 1
def uptoBulkAll {H : Type} : List (DataW H) → Nat
  | [] => 0
  | d :: r => uptoBulk d + uptoBulkAll r
def uptoBulkEntries {H : Type} : List (Lit × DataW H) → Nat
  | [] => 0
  | x :: r => uptoBulkEntry x + uptoBulkEntries r
def uptoBulkEntry {H : Type} : Lit × DataW H → Nat
  | (.string bytes, d) => bytes.length + uptoBulk d + 1
  | (_, d) => uptoBulk d + 1
 end
def uptoSmall : (H : Type) → List (DataW H) → Bool := fun _ ds => decide (uptoBulkAll ds ≤ 1048576)
def OpenSpec.upto (s : _root_.Go.ChangeSpec) : _root_.Go.OpenSpec := { _root_.Go.OpenSpec.ofChange s with cond := some uptoSmall }

/-- 'laws.FnExactTxOk', WHERE WHAT IT READS IS OF BULK AT MOST 1048576: true; the input reads as it did. -/
def fnExactTxOkUptoRow : OpenClaim := { program := "ytdjadeegjbhihaa", sum := "d7be35402b6782c961ed973de31144d425416c1e706dff596177644493dd6455", func := "loop.example/linkboy/laws.FnExactTxOk", spec := "fnExactTxOk", apart := false, narrowed := true }
def FnExactTxOkUptoSaid : Prop := fnExactTxOkUptoRow.holds Try.pinned (OpenSpec.upto fnExactTxOkSpec)

/-- 'laws.FnExactTxLeft', WHERE WHAT IT READS IS OF BULK AT MOST 1048576: true; the input reads as it did. -/
def fnExactTxLeftUptoRow : OpenClaim := { program := "ytdjadeegjbhihaa", sum := "d7be35402b6782c961ed973de31144d425416c1e706dff596177644493dd6455", func := "loop.example/linkboy/laws.FnExactTxLeft", spec := "fnExactTxLeft", apart := false, narrowed := true }
def FnExactTxLeftUptoSaid : Prop := fnExactTxLeftUptoRow.holds Try.pinned (OpenSpec.upto fnExactTxLeftSpec)

/-- 'laws.FnExactCrdTxOk', WHERE WHAT IT READS IS OF BULK AT MOST 1048576: true; the input reads as it did. -/
def fnExactCrdTxOkUptoRow : OpenClaim := { program := "ytdjadeegjbhihaa", sum := "d7be35402b6782c961ed973de31144d425416c1e706dff596177644493dd6455", func := "loop.example/linkboy/laws.FnExactCrdTxOk", spec := "fnExactCrdTxOk", apart := false, narrowed := true }
def FnExactCrdTxOkUptoSaid : Prop := fnExactCrdTxOkUptoRow.holds Try.pinned (OpenSpec.upto fnExactCrdTxOkSpec)

/-- 'laws.FnExactWldOk', WHERE WHAT IT READS IS OF BULK AT MOST 1048576: true; the input reads as it did. -/
def fnExactWldOkUptoRow : OpenClaim := { program := "ytdjadeegjbhihaa", sum := "d7be35402b6782c961ed973de31144d425416c1e706dff596177644493dd6455", func := "loop.example/linkboy/laws.FnExactWldOk", spec := "fnExactWldOk", unfollowed := true, recurses := true, apart := false, narrowed := true }
def FnExactWldOkUptoSaid : Prop := fnExactWldOkUptoRow.holds Try.pinned (OpenSpec.upto fnExactWldOkSpec)

/-- 'laws.FnExactWldDead', WHERE WHAT IT READS IS OF BULK AT MOST 1048576: true; the input reads as it did. -/
def fnExactWldDeadUptoRow : OpenClaim := { program := "ytdjadeegjbhihaa", sum := "d7be35402b6782c961ed973de31144d425416c1e706dff596177644493dd6455", func := "loop.example/linkboy/laws.FnExactWldDead", spec := "fnExactWldDead", unfollowed := true, recurses := true, apart := false, narrowed := true }
def FnExactWldDeadUptoSaid : Prop := fnExactWldDeadUptoRow.holds Try.pinned (OpenSpec.upto fnExactWldDeadSpec)

/-- 'laws.FnExactWldNew', WHERE WHAT IT READS IS OF BULK AT MOST 1048576: true; the input reads as it did. -/
def fnExactWldNewUptoRow : OpenClaim := { program := "ytdjadeegjbhihaa", sum := "d7be35402b6782c961ed973de31144d425416c1e706dff596177644493dd6455", func := "loop.example/linkboy/laws.FnExactWldNew", spec := "fnExactWldNew", apart := false, narrowed := true }
def FnExactWldNewUptoSaid : Prop := fnExactWldNewUptoRow.holds Try.pinned (OpenSpec.upto fnExactWldNewSpec)

/-- 'laws.FnWldNew', WHERE WHAT IT READS IS OF BULK AT MOST 1048576: true; the input reads as it did. -/
def fnWldNewUptoRow : OpenClaim := { program := "ytdjadeegjbhihaa", sum := "d7be35402b6782c961ed973de31144d425416c1e706dff596177644493dd6455", func := "loop.example/linkboy/laws.FnWldNew", spec := "fnWldNew", unfollowed := true, recurses := true, apart := false, narrowed := true }
def FnWldNewUptoSaid : Prop := fnWldNewUptoRow.holds Try.pinned (OpenSpec.upto fnWldNewSpec)

end Rows
end Go.Proofs.Ytdjadeegjbhihaa
