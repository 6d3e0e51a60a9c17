/-
  No cell of these rows narrows 'for every input' (looked for: loops, veiled, ifaces, maps, wideKeys, modest, calm, conditions, laid).
  DERIVED. THE GIVEN ROWS OF THIS SEAT. 5 by the template 'for every input the law returns true; each argument reads behind the call as it read before'; 0 by the template 'total and deterministic' (their statements: YthbmafoikloocarTotals.lean).
  GIVEN WITH THE SEED: the statements are not yours to turn. If you find one false, say at which input.
  Laid BY PROGRAM, IN A SANDBOX (cutbox-rows.mjs): the forced cells as the released guide's own fill.sh prints them over the translation 1bf29830a8317a37… (all of the seat's roots in one cut). By AI agents, Wed Nov 11 2026. No macro, syntax, notation, axiom, sorry.
-/
import Derived.Test.YthbmafoikloocarChecked
import GoSem.Claim
import GoSem.ClaimJoined
import GoSem.ClaimMapViews
import Derived.JoinedTies
import Derived.KernelRfl
namespace Go.Proofs.Ythbmafoikloocar
/- THE CELL 'sum', in the pinned program and in every row, IS THE sha256 OF THE DUMP (.gsa) THAT YthbmafoikloocarProg.lean LOADS. Nothing in Lean hashes anything: it is a label: what it is worth is what the hold of that sum in a sandbox is worth. -/
noncomputable def Try.pinned : Pinned := { name := "ythbmafoikloocar", sum := "1bf29830a8317a37fd89f7eebe4ed13f98d66fb397172e56f151c7406426ff1c", checked := Try.checked }
namespace Rows
def none {H : Type} : Left H := { results := [], args := [] }

/-- 'laws.FnExactDskEvent': WHATEVER THE INPUT: true; the input reads as it did. -/
def fnExactDskEventSpec : ChangeSpec := { name := "fnExactDskEvent", fn := fun _ => fun
  | [d] => { results := [.lit (.bool true)], args := [d] }
  | _ => none }
def fnExactDskEventRow : OpenClaim := { program := "ythbmafoikloocar", sum := "1bf29830a8317a37fd89f7eebe4ed13f98d66fb397172e56f151c7406426ff1c", func := "loop.example/linkboy/laws.FnExactDskEvent", spec := "fnExactDskEvent", apart := false }
def FnExactDskEventSaid : Prop := fnExactDskEventRow.holds Try.pinned (OpenSpec.ofChange fnExactDskEventSpec)

/-- ITS FALSE NEIGHBOUR: 'it returns false'. Refute it at one input. -/
def fnExactDskEventWrong : ChangeSpec := { name := "fnExactDskEvent", fn := fun _ => fun
  | [d] => { results := [.lit (.bool false)], args := [d] }
  | _ => none }
def FnExactDskEventWrongFalsely : Prop := fnExactDskEventRow.holds Try.pinned (OpenSpec.ofChange fnExactDskEventWrong)

/-- 'laws.FnExactDskBoard': WHATEVER THE INPUT: true; the input reads as it did. -/
def fnExactDskBoardSpec : ChangeSpec := { name := "fnExactDskBoard", fn := fun _ => fun
  | [d] => { results := [.lit (.bool true)], args := [d] }
  | _ => none }
def fnExactDskBoardRow : OpenClaim := { program := "ythbmafoikloocar", sum := "1bf29830a8317a37fd89f7eebe4ed13f98d66fb397172e56f151c7406426ff1c", func := "loop.example/linkboy/laws.FnExactDskBoard", spec := "fnExactDskBoard", apart := false }
def FnExactDskBoardSaid : Prop := fnExactDskBoardRow.holds Try.pinned (OpenSpec.ofChange fnExactDskBoardSpec)

/-- ITS FALSE NEIGHBOUR: 'it returns false'. Refute it at one input. -/
def fnExactDskBoardWrong : ChangeSpec := { name := "fnExactDskBoard", fn := fun _ => fun
  | [d] => { results := [.lit (.bool false)], args := [d] }
  | _ => none }
def FnExactDskBoardWrongFalsely : Prop := fnExactDskBoardRow.holds Try.pinned (OpenSpec.ofChange fnExactDskBoardWrong)

/-- 'laws.FnExactCrcStep': WHATEVER THE INPUT: true; the input reads as it did. -/
def fnExactCrcStepSpec : ChangeSpec := { name := "fnExactCrcStep", fn := fun _ => fun
  | [d1, d2] => { results := [.lit (.bool true)], args := [d1, d2] }
  | _ => none }
def fnExactCrcStepRow : OpenClaim := { program := "ythbmafoikloocar", sum := "1bf29830a8317a37fd89f7eebe4ed13f98d66fb397172e56f151c7406426ff1c", func := "loop.example/linkboy/laws.FnExactCrcStep", spec := "fnExactCrcStep", apart := false }
def FnExactCrcStepSaid : Prop := fnExactCrcStepRow.holds Try.pinned (OpenSpec.ofChange fnExactCrcStepSpec)

/-- ITS FALSE NEIGHBOUR: 'it returns false'. Refute it at one input. -/
def fnExactCrcStepWrong : ChangeSpec := { name := "fnExactCrcStep", fn := fun _ => fun
  | [d1, d2] => { results := [.lit (.bool false)], args := [d1, d2] }
  | _ => none }
def FnExactCrcStepWrongFalsely : Prop := fnExactCrcStepRow.holds Try.pinned (OpenSpec.ofChange fnExactCrcStepWrong)

/-- 'laws.FnExactCrcOf': WHATEVER THE INPUT: true; the input reads as it did. -/
def fnExactCrcOfSpec : ChangeSpec := { name := "fnExactCrcOf", fn := fun _ => fun
  | [d] => { results := [.lit (.bool true)], args := [d] }
  | _ => none }
def fnExactCrcOfRow : OpenClaim := { program := "ythbmafoikloocar", sum := "1bf29830a8317a37fd89f7eebe4ed13f98d66fb397172e56f151c7406426ff1c", func := "loop.example/linkboy/laws.FnExactCrcOf", spec := "fnExactCrcOf", unfollowed := true, recurses := true, apart := false }
def FnExactCrcOfSaid : Prop := fnExactCrcOfRow.holds Try.pinned (OpenSpec.ofChange fnExactCrcOfSpec)

/-- ITS FALSE NEIGHBOUR: 'it returns false'. Refute it at one input. -/
def fnExactCrcOfWrong : ChangeSpec := { name := "fnExactCrcOf", fn := fun _ => fun
  | [d] => { results := [.lit (.bool false)], args := [d] }
  | _ => none }
def FnExactCrcOfWrongFalsely : Prop := fnExactCrcOfRow.holds Try.pinned (OpenSpec.ofChange fnExactCrcOfWrong)

/-- 'laws.FnExactCrcPut': WHATEVER THE INPUT: true; the input reads as it did. -/
def fnExactCrcPutSpec : ChangeSpec := { name := "fnExactCrcPut", fn := fun _ => fun
  | [d] => { results := [.lit (.bool true)], args := [d] }
  | _ => none }
def fnExactCrcPutRow : OpenClaim := { program := "ythbmafoikloocar", sum := "1bf29830a8317a37fd89f7eebe4ed13f98d66fb397172e56f151c7406426ff1c", func := "loop.example/linkboy/laws.FnExactCrcPut", spec := "fnExactCrcPut", unfollowed := true, recurses := true, apart := false }
def FnExactCrcPutSaid : Prop := fnExactCrcPutRow.holds Try.pinned (OpenSpec.ofChange fnExactCrcPutSpec)

/-- ITS FALSE NEIGHBOUR: 'it returns false'. Refute it at one input. -/
def fnExactCrcPutWrong : ChangeSpec := { name := "fnExactCrcPut", fn := fun _ => fun
  | [d] => { results := [.lit (.bool false)], args := [d] }
  | _ => none }
def FnExactCrcPutWrongFalsely : Prop := fnExactCrcPutRow.holds Try.pinned (OpenSpec.ofChange fnExactCrcPutWrong)

/- THE SECOND FORM. 'bulk': how many values and letters a reading holds, each counted each time it is reached (what is shared counts as often as it is met; a slice's spare places count too). A statement '..UptoSaid' is the law's where the arguments, and the package variables that the reading takes, are together of bulk at most 1048576: NARROWER than '..Said'. Prove '..Said' where nothing that the law and all that it calls make is longer than what came in: it says more and counts as full. Else prove '..UptoSaid'. A law counts once. -/
mutual
def uptoBulk {H : Type} : DataW H → Nat
  | .lit (.string bytes) => bytes.length + 1
  | .lit _ => 1
  | .nil => 1
  | .ptr d => uptoBulk d + 1
  | .slice elems spare => uptoBulkAll elems + uptoBulkAll spare + 1
  | .agg parts => uptoBulkAll parts + 1
  | .iface _ d => uptoBulk d + 1
  | .map entries => uptoBulkEntries entries + 1
  | .held _ => 1
def uptoBulkAll {H : Type} : List (DataW H) → Nat
  | [] => 0
  | d :: r => uptoBulk d + uptoBulkAll r
def uptoBulkEntries {H : Type} : List (Lit × DataW H) → Nat
  | [] => 0
  | x :: r => uptoBulkEntry x + uptoBulkEntries r
def uptoBulkEntry {H : Type} : Lit × DataW H → Nat
  | (.string bytes, d) => bytes.length + uptoBulk d + 1
  | (_, d) => uptoBulk d + 1
 end
def uptoSmall : (H : Type) → List (DataW H) → Bool := fun _ ds => decide (uptoBulkAll ds ≤ 1048576)
def OpenSpec.upto (s : _root_.Go.ChangeSpec) : _root_.Go.OpenSpec := { _root_.Go.OpenSpec.ofChange s with cond := some uptoSmall }

/-- 'laws.FnExactDskEvent', WHERE WHAT IT READS IS OF BULK AT MOST 1048576: true; the input reads as it did. -/
def fnExactDskEventUptoRow : OpenClaim := { program := "ythbmafoikloocar", sum := "1bf29830a8317a37fd89f7eebe4ed13f98d66fb397172e56f151c7406426ff1c", func := "loop.example/linkboy/laws.FnExactDskEvent", spec := "fnExactDskEvent", apart := false, narrowed := true }
def FnExactDskEventUptoSaid : Prop := fnExactDskEventUptoRow.holds Try.pinned (OpenSpec.upto fnExactDskEventSpec)

/-- 'laws.FnExactDskBoard', WHERE WHAT IT READS IS OF BULK AT MOST 1048576: true; the input reads as it did. -/
def fnExactDskBoardUptoRow : OpenClaim := { program := "ythbmafoikloocar", sum := "1bf29830a8317a37fd89f7eebe4ed13f98d66fb397172e56f151c7406426ff1c", func := "loop.example/linkboy/laws.FnExactDskBoard", spec := "fnExactDskBoard", apart := false, narrowed := true }
def FnExactDskBoardUptoSaid : Prop := fnExactDskBoardUptoRow.holds Try.pinned (OpenSpec.upto fnExactDskBoardSpec)

/-- 'laws.FnExactCrcStep', WHERE WHAT IT READS IS OF BULK AT MOST 1048576: true; the input reads as it did. -/
def fnExactCrcStepUptoRow : OpenClaim := { program := "ythbmafoikloocar", sum := "1bf29830a8317a37fd89f7eebe4ed13f98d66fb397172e56f151c7406426ff1c", func := "loop.example/linkboy/laws.FnExactCrcStep", spec := "fnExactCrcStep", apart := false, narrowed := true }
def FnExactCrcStepUptoSaid : Prop := fnExactCrcStepUptoRow.holds Try.pinned (OpenSpec.upto fnExactCrcStepSpec)

/-- 'laws.FnExactCrcOf', WHERE WHAT IT READS IS OF BULK AT MOST 1048576: true; the input reads as it did. -/
def fnExactCrcOfUptoRow : OpenClaim := { program := "ythbmafoikloocar", sum := "1bf29830a8317a37fd89f7eebe4ed13f98d66fb397172e56f151c7406426ff1c", func := "loop.example/linkboy/laws.FnExactCrcOf", spec := "fnExactCrcOf", unfollowed := true, recurses := true, apart := false, narrowed := true }
def FnExactCrcOfUptoSaid : Prop := fnExactCrcOfUptoRow.holds Try.pinned (OpenSpec.upto fnExactCrcOfSpec)

/-- 'laws.FnExactCrcPut', WHERE WHAT IT READS IS OF BULK AT MOST 1048576: true; the input reads as it did. -/
def fnExactCrcPutUptoRow : OpenClaim := { program := "ythbmafoikloocar", sum := "1bf29830a8317a37fd89f7eebe4ed13f98d66fb397172e56f151c7406426ff1c", func := "loop.example/linkboy/laws.FnExactCrcPut", spec := "fnExactCrcPut", unfollowed := true, recurses := true, apart := false, narrowed := true }
def FnExactCrcPutUptoSaid : Prop := fnExactCrcPutUptoRow.holds Try.pinned (OpenSpec.upto fnExactCrcPutSpec)

end Rows
end Go.Proofs.Ythbmafoikloocar
