/-
  No cell of these rows narrows 'for every input' (looked for: loops, veiled, ifaces, maps, wideKeys, modest, calm, conditions, laid).
  DERIVED. THE GIVEN ROWS OF THIS SEAT. 5 by the template 'for every input the law returns true; each argument reads behind the call as it read before'; 0 by the template 'total and deterministic' (their statements: YtpghbdigiplbiaaTotals.lean).
  GIVEN WITH THE SEED: the statements are not yours to turn. If you find one false, say at which input.
  Laid BY PROGRAM, IN A SANDBOX (cutbox-rows.mjs): the forced cells as the released guide's own fill.sh prints them over the translation cd335ff80a0e4797… (all of the seat's roots in one cut). By AI agents, Wed Nov 11 2026. No macro, syntax, notation, axiom, sorry.
-/
import Derived.Test.YtpghbdigiplbiaaChecked
import GoSem.Claim
import GoSem.ClaimJoined
import GoSem.ClaimMapViews
import Derived.JoinedTies
import Derived.KernelRfl
namespace Go.Proofs.Ytpghbdigiplbiaa
/- THE CELL 'sum', in the pinned program and in every row, IS THE sha256 OF THE DUMP (.gsa) THAT YtpghbdigiplbiaaProg.lean LOADS. Nothing in Lean hashes anything: it is a label: what it is worth is what the hold of that sum in a sandbox is worth. -/
noncomputable def Try.pinned : Pinned := { name := "ytpghbdigiplbiaa", sum := "cd335ff80a0e47970edaeed3c9829876b2ff0bbdeaa1a1b53befe63d0a49a2a5", checked := Try.checked }
namespace Rows
def none {H : Type} : Left H := { results := [], args := [] }

/-- 'laws.FnSegCut': WHATEVER THE INPUT: true; the input reads as it did. -/
def fnSegCutSpec : ChangeSpec := { name := "fnSegCut", fn := fun _ => fun
  | [d] => { results := [.lit (.bool true)], args := [d] }
  | _ => none }
def fnSegCutRow : OpenClaim := { program := "ytpghbdigiplbiaa", sum := "cd335ff80a0e47970edaeed3c9829876b2ff0bbdeaa1a1b53befe63d0a49a2a5", func := "loop.example/linkboy/laws.FnSegCut", spec := "fnSegCut", unfollowed := true, recurses := true, apart := false }
def FnSegCutSaid : Prop := fnSegCutRow.holds Try.pinned (OpenSpec.ofChange fnSegCutSpec)

/-- ITS FALSE NEIGHBOUR: 'it returns false'. Refute it at one input. -/
def fnSegCutWrong : ChangeSpec := { name := "fnSegCut", fn := fun _ => fun
  | [d] => { results := [.lit (.bool false)], args := [d] }
  | _ => none }
def FnSegCutWrongFalsely : Prop := fnSegCutRow.holds Try.pinned (OpenSpec.ofChange fnSegCutWrong)

/-- 'laws.FnSegPut': WHATEVER THE INPUT: true; the input reads as it did. -/
def fnSegPutSpec : ChangeSpec := { name := "fnSegPut", fn := fun _ => fun
  | [d] => { results := [.lit (.bool true)], args := [d] }
  | _ => none }
def fnSegPutRow : OpenClaim := { program := "ytpghbdigiplbiaa", sum := "cd335ff80a0e47970edaeed3c9829876b2ff0bbdeaa1a1b53befe63d0a49a2a5", func := "loop.example/linkboy/laws.FnSegPut", spec := "fnSegPut", unfollowed := true, recurses := true, apart := false }
def FnSegPutSaid : Prop := fnSegPutRow.holds Try.pinned (OpenSpec.ofChange fnSegPutSpec)

/-- ITS FALSE NEIGHBOUR: 'it returns false'. Refute it at one input. -/
def fnSegPutWrong : ChangeSpec := { name := "fnSegPut", fn := fun _ => fun
  | [d] => { results := [.lit (.bool false)], args := [d] }
  | _ => none }
def FnSegPutWrongFalsely : Prop := fnSegPutRow.holds Try.pinned (OpenSpec.ofChange fnSegPutWrong)

/-- 'laws.FnSegCount': WHATEVER THE INPUT: true; the input reads as it did. -/
def fnSegCountSpec : ChangeSpec := { name := "fnSegCount", fn := fun _ => fun
  | [d] => { results := [.lit (.bool true)], args := [d] }
  | _ => none }
def fnSegCountRow : OpenClaim := { program := "ytpghbdigiplbiaa", sum := "cd335ff80a0e47970edaeed3c9829876b2ff0bbdeaa1a1b53befe63d0a49a2a5", func := "loop.example/linkboy/laws.FnSegCount", spec := "fnSegCount", apart := false }
def FnSegCountSaid : Prop := fnSegCountRow.holds Try.pinned (OpenSpec.ofChange fnSegCountSpec)

/-- ITS FALSE NEIGHBOUR: 'it returns false'. Refute it at one input. -/
def fnSegCountWrong : ChangeSpec := { name := "fnSegCount", fn := fun _ => fun
  | [d] => { results := [.lit (.bool false)], args := [d] }
  | _ => none }
def FnSegCountWrongFalsely : Prop := fnSegCountRow.holds Try.pinned (OpenSpec.ofChange fnSegCountWrong)

/-- 'laws.FnSegLost': WHATEVER THE INPUT: true; the input reads as it did. -/
def fnSegLostSpec : ChangeSpec := { name := "fnSegLost", fn := fun _ => fun
  | [d] => { results := [.lit (.bool true)], args := [d] }
  | _ => none }
def fnSegLostRow : OpenClaim := { program := "ytpghbdigiplbiaa", sum := "cd335ff80a0e47970edaeed3c9829876b2ff0bbdeaa1a1b53befe63d0a49a2a5", func := "loop.example/linkboy/laws.FnSegLost", spec := "fnSegLost", unfollowed := true, recurses := true, apart := false }
def FnSegLostSaid : Prop := fnSegLostRow.holds Try.pinned (OpenSpec.ofChange fnSegLostSpec)

/-- ITS FALSE NEIGHBOUR: 'it returns false'. Refute it at one input. -/
def fnSegLostWrong : ChangeSpec := { name := "fnSegLost", fn := fun _ => fun
  | [d] => { results := [.lit (.bool false)], args := [d] }
  | _ => none }
def FnSegLostWrongFalsely : Prop := fnSegLostRow.holds Try.pinned (OpenSpec.ofChange fnSegLostWrong)

/-- 'laws.FnSegTwo': WHATEVER THE INPUT: true; the input reads as it did. -/
def fnSegTwoSpec : ChangeSpec := { name := "fnSegTwo", fn := fun _ => fun
  | [d1, d2] => { results := [.lit (.bool true)], args := [d1, d2] }
  | _ => none }
def fnSegTwoRow : OpenClaim := { program := "ytpghbdigiplbiaa", sum := "cd335ff80a0e47970edaeed3c9829876b2ff0bbdeaa1a1b53befe63d0a49a2a5", func := "loop.example/linkboy/laws.FnSegTwo", spec := "fnSegTwo", unfollowed := true, recurses := true, apart := false }
def FnSegTwoSaid : Prop := fnSegTwoRow.holds Try.pinned (OpenSpec.ofChange fnSegTwoSpec)

/-- ITS FALSE NEIGHBOUR: 'it returns false'. Refute it at one input. -/
def fnSegTwoWrong : ChangeSpec := { name := "fnSegTwo", fn := fun _ => fun
  | [d1, d2] => { results := [.lit (.bool false)], args := [d1, d2] }
  | _ => none }
def FnSegTwoWrongFalsely : Prop := fnSegTwoRow.holds Try.pinned (OpenSpec.ofChange fnSegTwoWrong)

/- THE SECOND FORM. 'bulk': how many values and letters a reading holds, each counted each time it is reached (what is shared counts as often as it is met; a slice's spare places count too). A statement '..UptoSaid' is the law's where the arguments, and the package variables that the reading takes, are together of bulk at most 1048576: NARROWER than '..Said'. Prove '..Said' where nothing that the law and all that it calls make is longer than what came in: it says more and counts as full. Else prove '..UptoSaid'. A law counts once. -/
mutual
def uptoBulk {H : Type} : DataW H → Nat
  | .lit (.string bytes) => bytes.length + 1
  | .lit _ => 1
  | .nil => 1
  | .ptr d => uptoBulk d + 1
  | .slice elems spare => uptoBulkAll elems + uptoBulkAll spare + 1
  | .agg parts => uptoBulkAll parts + 1
  | .iface _ d => uptoBulk d + 1
  | .map entries => uptoBulkEntries entries + 1
  | .held _ => 1
def uptoBulkAll {H : Type} : List (DataW H) → Nat
  | [] => 0
  | d :: r => uptoBulk d + uptoBulkAll r
def uptoBulkEntries {H : Type} : List (Lit × DataW H) → Nat
  | [] => 0
  | x :: r => uptoBulkEntry x + uptoBulkEntries r
def uptoBulkEntry {H : Type} : Lit × DataW H → Nat
  | (.string bytes, d) => bytes.length + uptoBulk d + 1
  | (_, d) => uptoBulk d + 1
 end
def uptoSmall : (H : Type) → List (DataW H) → Bool := fun _ ds => decide (uptoBulkAll ds ≤ 1048576)
def OpenSpec.upto (s : _root_.Go.ChangeSpec) : _root_.Go.OpenSpec := { _root_.Go.OpenSpec.ofChange s with cond := some uptoSmall }

/-- 'laws.FnSegCut', WHERE WHAT IT READS IS OF BULK AT MOST 1048576: true; the input reads as it did. -/
def fnSegCutUptoRow : OpenClaim := { program := "ytpghbdigiplbiaa", sum := "cd335ff80a0e47970edaeed3c9829876b2ff0bbdeaa1a1b53befe63d0a49a2a5", func := "loop.example/linkboy/laws.FnSegCut", spec := "fnSegCut", unfollowed := true, recurses := true, apart := false, narrowed := true }
def FnSegCutUptoSaid : Prop := fnSegCutUptoRow.holds Try.pinned (OpenSpec.upto fnSegCutSpec)

/-- 'laws.FnSegPut', WHERE WHAT IT READS IS OF BULK AT MOST 1048576: true; the input reads as it did. -/
def fnSegPutUptoRow : OpenClaim := { program := "ytpghbdigiplbiaa", sum := "cd335ff80a0e47970edaeed3c9829876b2ff0bbdeaa1a1b53befe63d0a49a2a5", func := "loop.example/linkboy/laws.FnSegPut", spec := "fnSegPut", unfollowed := true, recurses := true, apart := false, narrowed := true }
def FnSegPutUptoSaid : Prop := fnSegPutUptoRow.holds Try.pinned (OpenSpec.upto fnSegPutSpec)

/-- 'laws.FnSegCount', WHERE WHAT IT READS IS OF BULK AT MOST 1048576: true; the input reads as it did. -/
def fnSegCountUptoRow : OpenClaim := { program := "ytpghbdigiplbiaa", sum := "cd335ff80a0e47970edaeed3c9829876b2ff0bbdeaa1a1b53befe63d0a49a2a5", func := "loop.example/linkboy/laws.FnSegCount", spec := "fnSegCount", apart := false, narrowed := true }
def FnSegCountUptoSaid : Prop := fnSegCountUptoRow.holds Try.pinned (OpenSpec.upto fnSegCountSpec)

/-- 'laws.FnSegLost', WHERE WHAT IT READS IS OF BULK AT MOST 1048576: true; the input reads as it did. -/
def fnSegLostUptoRow : OpenClaim := { program := "ytpghbdigiplbiaa", sum := "cd335ff80a0e47970edaeed3c9829876b2ff0bbdeaa1a1b53befe63d0a49a2a5", func := "loop.example/linkboy/laws.FnSegLost", spec := "fnSegLost", unfollowed := true, recurses := true, apart := false, narrowed := true }
def FnSegLostUptoSaid : Prop := fnSegLostUptoRow.holds Try.pinned (OpenSpec.upto fnSegLostSpec)

/-- 'laws.FnSegTwo', WHERE WHAT IT READS IS OF BULK AT MOST 1048576: true; the input reads as it did. -/
def fnSegTwoUptoRow : OpenClaim := { program := "ytpghbdigiplbiaa", sum := "cd335ff80a0e47970edaeed3c9829876b2ff0bbdeaa1a1b53befe63d0a49a2a5", func := "loop.example/linkboy/laws.FnSegTwo", spec := "fnSegTwo", unfollowed := true, recurses := true, apart := false, narrowed := true }
def FnSegTwoUptoSaid : Prop := fnSegTwoUptoRow.holds Try.pinned (OpenSpec.upto fnSegTwoSpec)

end Rows
end Go.Proofs.Ytpghbdigiplbiaa
