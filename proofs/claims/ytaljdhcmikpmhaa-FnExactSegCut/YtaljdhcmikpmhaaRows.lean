/-
  No cell of these rows narrows 'for every input' (looked for: loops, veiled, ifaces, maps, wideKeys, modest, calm, conditions, laid).
  DERIVED. THE GIVEN ROWS OF THIS SEAT. 4 by the template 'for every input the law returns true; each argument reads behind the call as it read before'; 0 by the template 'total and deterministic' (their statements: YtaljdhcmikpmhaaTotals.lean).
  GIVEN WITH THE SEED: the statements are not yours to turn. If you find one false, say at which input.
  Laid BY PROGRAM, IN A SANDBOX (cutbox-rows.mjs): the forced cells as the released guide's own fill.sh prints them over the translation 0697a8f68426ddd2… (all of the seat's roots in one cut). By AI agents, Wed Nov 11 2026. No macro, syntax, notation, axiom, sorry.
-/
import Derived.Test.YtaljdhcmikpmhaaChecked
import GoSem.Claim
import GoSem.ClaimJoined
import GoSem.ClaimMapViews
import Derived.JoinedTies
import Derived.KernelRfl
namespace Go.Proofs.Ytaljdhcmikpmhaa
/- THE CELL 'sum', in the pinned program and in every row, IS THE sha256 OF THE DUMP (.gsa) THAT YtaljdhcmikpmhaaProg.lean LOADS. Nothing in Lean hashes anything: it is a label: what it is worth is what the hold of that sum in a sandbox is worth. -/
noncomputable def Try.pinned : Pinned := { name := "ytaljdhcmikpmhaa", sum := "0697a8f68426ddd2f97c40daad4928b8fb58d63f6008422902d8e3b1de6b3933", checked := Try.checked }
namespace Rows
def none {H : Type} : Left H := { results := [], args := [] }

/-- 'laws.FnExactSegCut': WHATEVER THE INPUT: true; the input reads as it did. -/
def fnExactSegCutSpec : ChangeSpec := { name := "fnExactSegCut", fn := fun _ => fun
  | [d1, d2] => { results := [.lit (.bool true)], args := [d1, d2] }
  | _ => none }
def fnExactSegCutRow : OpenClaim := { program := "ytaljdhcmikpmhaa", sum := "0697a8f68426ddd2f97c40daad4928b8fb58d63f6008422902d8e3b1de6b3933", func := "loop.example/linkboy/laws.FnExactSegCut", spec := "fnExactSegCut", apart := false }
def FnExactSegCutSaid : Prop := fnExactSegCutRow.holds Try.pinned (OpenSpec.ofChange fnExactSegCutSpec)

/-- ITS FALSE NEIGHBOUR: 'it returns false'. Refute it at one input. -/
def fnExactSegCutWrong : ChangeSpec := { name := "fnExactSegCut", fn := fun _ => fun
  | [d1, d2] => { results := [.lit (.bool false)], args := [d1, d2] }
  | _ => none }
def FnExactSegCutWrongFalsely : Prop := fnExactSegCutRow.holds Try.pinned (OpenSpec.ofChange fnExactSegCutWrong)

/-- 'laws.FnExactPartOk': WHATEVER THE INPUT: true; the input reads as it did. -/
def fnExactPartOkSpec : ChangeSpec := { name := "fnExactPartOk", fn := fun _ => fun
  | [d] => { results := [.lit (.bool true)], args := [d] }
  | _ => none }
def fnExactPartOkRow : OpenClaim := { program := "ytaljdhcmikpmhaa", sum := "0697a8f68426ddd2f97c40daad4928b8fb58d63f6008422902d8e3b1de6b3933", func := "loop.example/linkboy/laws.FnExactPartOk", spec := "fnExactPartOk", apart := false }
def FnExactPartOkSaid : Prop := fnExactPartOkRow.holds Try.pinned (OpenSpec.ofChange fnExactPartOkSpec)

/-- ITS FALSE NEIGHBOUR: 'it returns false'. Refute it at one input. -/
def fnExactPartOkWrong : ChangeSpec := { name := "fnExactPartOk", fn := fun _ => fun
  | [d] => { results := [.lit (.bool false)], args := [d] }
  | _ => none }
def FnExactPartOkWrongFalsely : Prop := fnExactPartOkRow.holds Try.pinned (OpenSpec.ofChange fnExactPartOkWrong)

/-- 'laws.FnExactJoinOk': WHATEVER THE INPUT: true; the input reads as it did. -/
def fnExactJoinOkSpec : ChangeSpec := { name := "fnExactJoinOk", fn := fun _ => fun
  | [d] => { results := [.lit (.bool true)], args := [d] }
  | _ => none }
def fnExactJoinOkRow : OpenClaim := { program := "ytaljdhcmikpmhaa", sum := "0697a8f68426ddd2f97c40daad4928b8fb58d63f6008422902d8e3b1de6b3933", func := "loop.example/linkboy/laws.FnExactJoinOk", spec := "fnExactJoinOk", apart := false }
def FnExactJoinOkSaid : Prop := fnExactJoinOkRow.holds Try.pinned (OpenSpec.ofChange fnExactJoinOkSpec)

/-- ITS FALSE NEIGHBOUR: 'it returns false'. Refute it at one input. -/
def fnExactJoinOkWrong : ChangeSpec := { name := "fnExactJoinOk", fn := fun _ => fun
  | [d] => { results := [.lit (.bool false)], args := [d] }
  | _ => none }
def FnExactJoinOkWrongFalsely : Prop := fnExactJoinOkRow.holds Try.pinned (OpenSpec.ofChange fnExactJoinOkWrong)

/-- 'laws.FnExactSegPut': WHATEVER THE INPUT: true; the input reads as it did. -/
def fnExactSegPutSpec : ChangeSpec := { name := "fnExactSegPut", fn := fun _ => fun
  | [d1, d2] => { results := [.lit (.bool true)], args := [d1, d2] }
  | _ => none }
def fnExactSegPutRow : OpenClaim := { program := "ytaljdhcmikpmhaa", sum := "0697a8f68426ddd2f97c40daad4928b8fb58d63f6008422902d8e3b1de6b3933", func := "loop.example/linkboy/laws.FnExactSegPut", spec := "fnExactSegPut", unfollowed := true, recurses := true, apart := false }
def FnExactSegPutSaid : Prop := fnExactSegPutRow.holds Try.pinned (OpenSpec.ofChange fnExactSegPutSpec)

/-- ITS FALSE NEIGHBOUR: 'it returns false'. Refute it at one input. -/
def fnExactSegPutWrong : ChangeSpec := { name := "fnExactSegPut", fn := fun _ => fun
  | [d1, d2] => { results := [.lit (.bool false)], args := [d1, d2] }
  | _ => none }
def FnExactSegPutWrongFalsely : Prop := fnExactSegPutRow.holds Try.pinned (OpenSpec.ofChange fnExactSegPutWrong)

/- THE SECOND FORM. 'bulk': how many values and letters a reading holds, each counted each time it is reached (what is shared counts as often as it is met; a slice's spare places count too). A statement '..UptoSaid' is the law's where the arguments, and the package variables that the reading takes, are together of bulk at most 1048576: NARROWER than '..Said'. Prove '..Said' where nothing that the law and all that it calls make is longer than what came in: it says more and counts as full. Else prove '..UptoSaid'. A law counts once. -/
mutual
def uptoBulk {H : Type} : DataW H → Nat
  | .lit (.string bytes) => bytes.length + 1
  | .lit _ => 1
  | .nil => 1
  | .ptr d => uptoBulk d + 1
  | .slice elems spare => uptoBulkAll elems + uptoBulkAll spare + 1
  | .agg parts => uptoBulkAll parts + 1
  | .iface _ d => uptoBulk d + 1
  | .map entries => uptoBulkEntries entries + 1
  | .held _ => 1
def uptoBulkAll {H : Type} : List (DataW H) → Nat
  | [] => 0
  | d :: r => uptoBulk d + uptoBulkAll r
def uptoBulkEntries {H : Type} : List (Lit × DataW H) → Nat
  | [] => 0
  | x :: r => uptoBulkEntry x + uptoBulkEntries r
def uptoBulkEntry {H : Type} : Lit × DataW H → Nat
  | (.string bytes, d) => bytes.length + uptoBulk d + 1
  | (_, d) => uptoBulk d + 1
 end
def uptoSmall : (H : Type) → List (DataW H) → Bool := fun _ ds => decide (uptoBulkAll ds ≤ 1048576)
def OpenSpec.upto (s : _root_.Go.ChangeSpec) : _root_.Go.OpenSpec := { _root_.Go.OpenSpec.ofChange s with cond := some uptoSmall }

/-- 'laws.FnExactSegCut', WHERE WHAT IT READS IS OF BULK AT MOST 1048576: true; the input reads as it did. -/
def fnExactSegCutUptoRow : OpenClaim := { program := "ytaljdhcmikpmhaa", sum := "0697a8f68426ddd2f97c40daad4928b8fb58d63f6008422902d8e3b1de6b3933", func := "loop.example/linkboy/laws.FnExactSegCut", spec := "fnExactSegCut", apart := false, narrowed := true }
def FnExactSegCutUptoSaid : Prop := fnExactSegCutUptoRow.holds Try.pinned (OpenSpec.upto fnExactSegCutSpec)

/-- 'laws.FnExactPartOk', WHERE WHAT IT READS IS OF BULK AT MOST 1048576: true; the input reads as it did. -/
def fnExactPartOkUptoRow : OpenClaim := { program := "ytaljdhcmikpmhaa", sum := "0697a8f68426ddd2f97c40daad4928b8fb58d63f6008422902d8e3b1de6b3933", func := "loop.example/linkboy/laws.FnExactPartOk", spec := "fnExactPartOk", apart := false, narrowed := true }
def FnExactPartOkUptoSaid : Prop := fnExactPartOkUptoRow.holds Try.pinned (OpenSpec.upto fnExactPartOkSpec)

/-- 'laws.FnExactJoinOk', WHERE WHAT IT READS IS OF BULK AT MOST 1048576: true; the input reads as it did. -/
def fnExactJoinOkUptoRow : OpenClaim := { program := "ytaljdhcmikpmhaa", sum := "0697a8f68426ddd2f97c40daad4928b8fb58d63f6008422902d8e3b1de6b3933", func := "loop.example/linkboy/laws.FnExactJoinOk", spec := "fnExactJoinOk", apart := false, narrowed := true }
def FnExactJoinOkUptoSaid : Prop := fnExactJoinOkUptoRow.holds Try.pinned (OpenSpec.upto fnExactJoinOkSpec)

/-- 'laws.FnExactSegPut', WHERE WHAT IT READS IS OF BULK AT MOST 1048576: true; the input reads as it did. -/
def fnExactSegPutUptoRow : OpenClaim := { program := "ytaljdhcmikpmhaa", sum := "0697a8f68426ddd2f97c40daad4928b8fb58d63f6008422902d8e3b1de6b3933", func := "loop.example/linkboy/laws.FnExactSegPut", spec := "fnExactSegPut", unfollowed := true, recurses := true, apart := false, narrowed := true }
def FnExactSegPutUptoSaid : Prop := fnExactSegPutUptoRow.holds Try.pinned (OpenSpec.upto fnExactSegPutSpec)

end Rows
end Go.Proofs.Ytaljdhcmikpmhaa
