/-
  No cell of these rows narrows 'for every input' (looked for: loops, veiled, ifaces, maps, wideKeys, modest, calm, conditions, laid).
  DERIVED. THE GIVEN ROWS OF THIS SEAT. 4 by the template 'for every input the law returns true; each argument reads behind the call as it read before'; 0 by the template 'total and deterministic' (their statements: YtpiihfogdjihdaaTotals.lean).
  GIVEN WITH THE SEED: the statements are not yours to turn. If you find one false, say at which input.
  Laid BY PROGRAM, IN A SANDBOX (cutbox-rows.mjs): the forced cells as the released guide's own fill.sh prints them over the translation 9b19c2322a6b8a0e… (all of the seat's roots in one cut). By AI agents, Wed Nov 11 2026. No macro, syntax, notation, axiom, sorry.
-/
import Derived.Test.YtpiihfogdjihdaaChecked
import GoSem.Claim
import GoSem.ClaimJoined
import GoSem.ClaimMapViews
import Derived.JoinedTies
import Derived.KernelRfl
namespace Go.Proofs.Ytpiihfogdjihdaa
/- THE CELL 'sum', in the pinned program and in every row, IS THE sha256 OF THE DUMP (.gsa) THAT YtpiihfogdjihdaaProg.lean LOADS. Nothing in Lean hashes anything: it is a label: what it is worth is what the hold of that sum in a sandbox is worth. -/
noncomputable def Try.pinned : Pinned := { name := "ytpiihfogdjihdaa", sum := "9b19c2322a6b8a0edca809ac22483ff5eeffe51f6bce22456cbf40f09c175383", checked := Try.checked }
namespace Rows
def none {H : Type} : Left H := { results := [], args := [] }

/-- 'laws.FnTxLeft': WHATEVER THE INPUT: true; the input reads as it did. -/
def fnTxLeftSpec : ChangeSpec := { name := "fnTxLeft", fn := fun _ => fun
  | [d] => { results := [.lit (.bool true)], args := [d] }
  | _ => none }
def fnTxLeftRow : OpenClaim := { program := "ytpiihfogdjihdaa", sum := "9b19c2322a6b8a0edca809ac22483ff5eeffe51f6bce22456cbf40f09c175383", func := "loop.example/linkboy/laws.FnTxLeft", spec := "fnTxLeft", apart := false }
def FnTxLeftSaid : Prop := fnTxLeftRow.holds Try.pinned (OpenSpec.ofChange fnTxLeftSpec)

/-- ITS FALSE NEIGHBOUR: 'it returns false'. Refute it at one input. -/
def fnTxLeftWrong : ChangeSpec := { name := "fnTxLeft", fn := fun _ => fun
  | [d] => { results := [.lit (.bool false)], args := [d] }
  | _ => none }
def FnTxLeftWrongFalsely : Prop := fnTxLeftRow.holds Try.pinned (OpenSpec.ofChange fnTxLeftWrong)

/-- 'laws.FnTxOk': WHATEVER THE INPUT: true; the input reads as it did. -/
def fnTxOkSpec : ChangeSpec := { name := "fnTxOk", fn := fun _ => fun
  | [d] => { results := [.lit (.bool true)], args := [d] }
  | _ => none }
def fnTxOkRow : OpenClaim := { program := "ytpiihfogdjihdaa", sum := "9b19c2322a6b8a0edca809ac22483ff5eeffe51f6bce22456cbf40f09c175383", func := "loop.example/linkboy/laws.FnTxOk", spec := "fnTxOk", apart := false }
def FnTxOkSaid : Prop := fnTxOkRow.holds Try.pinned (OpenSpec.ofChange fnTxOkSpec)

/-- ITS FALSE NEIGHBOUR: 'it returns false'. Refute it at one input. -/
def fnTxOkWrong : ChangeSpec := { name := "fnTxOk", fn := fun _ => fun
  | [d] => { results := [.lit (.bool false)], args := [d] }
  | _ => none }
def FnTxOkWrongFalsely : Prop := fnTxOkRow.holds Try.pinned (OpenSpec.ofChange fnTxOkWrong)

/-- 'laws.FnTxTick': WHATEVER THE INPUT: true; the input reads as it did. -/
def fnTxTickSpec : ChangeSpec := { name := "fnTxTick", fn := fun _ => fun
  | [d] => { results := [.lit (.bool true)], args := [d] }
  | _ => none }
def fnTxTickRow : OpenClaim := { program := "ytpiihfogdjihdaa", sum := "9b19c2322a6b8a0edca809ac22483ff5eeffe51f6bce22456cbf40f09c175383", func := "loop.example/linkboy/laws.FnTxTick", spec := "fnTxTick", unfollowed := true, recurses := true, apart := false }
def FnTxTickSaid : Prop := fnTxTickRow.holds Try.pinned (OpenSpec.ofChange fnTxTickSpec)

/-- ITS FALSE NEIGHBOUR: 'it returns false'. Refute it at one input. -/
def fnTxTickWrong : ChangeSpec := { name := "fnTxTick", fn := fun _ => fun
  | [d] => { results := [.lit (.bool false)], args := [d] }
  | _ => none }
def FnTxTickWrongFalsely : Prop := fnTxTickRow.holds Try.pinned (OpenSpec.ofChange fnTxTickWrong)

/-- 'laws.FnCrdTxOk': WHATEVER THE INPUT: true; the input reads as it did. -/
def fnCrdTxOkSpec : ChangeSpec := { name := "fnCrdTxOk", fn := fun _ => fun
  | [d] => { results := [.lit (.bool true)], args := [d] }
  | _ => none }
def fnCrdTxOkRow : OpenClaim := { program := "ytpiihfogdjihdaa", sum := "9b19c2322a6b8a0edca809ac22483ff5eeffe51f6bce22456cbf40f09c175383", func := "loop.example/linkboy/laws.FnCrdTxOk", spec := "fnCrdTxOk", apart := false }
def FnCrdTxOkSaid : Prop := fnCrdTxOkRow.holds Try.pinned (OpenSpec.ofChange fnCrdTxOkSpec)

/-- ITS FALSE NEIGHBOUR: 'it returns false'. Refute it at one input. -/
def fnCrdTxOkWrong : ChangeSpec := { name := "fnCrdTxOk", fn := fun _ => fun
  | [d] => { results := [.lit (.bool false)], args := [d] }
  | _ => none }
def FnCrdTxOkWrongFalsely : Prop := fnCrdTxOkRow.holds Try.pinned (OpenSpec.ofChange fnCrdTxOkWrong)

/- THE SECOND FORM. 'bulk': how many values and letters a reading holds, each counted each time it is reached (what is shared counts as often as it is met; a slice's spare places count too). A statement '..UptoSaid' is the law's where the arguments, and the package variables that the reading takes, are together of bulk at most 1048576: NARROWER than '..Said'. Prove '..Said' where nothing that the law and all that it calls make is longer than what came in: it says more and counts as full. Else prove '..UptoSaid'. A law counts once. -/
mutual
def uptoBulk {H : Type} : DataW H → Nat
  | .lit (.string bytes) => bytes.length + 1
  | .lit _ => 1
  | .nil => 1
  | .ptr d => uptoBulk d + 1
  | .slice elems spare => uptoBulkAll elems + uptoBulkAll spare + 1
  | .agg parts => uptoBulkAll parts + 1
  | .iface _ d => uptoBulk d + 1
  | .map entries => uptoBulkEntries entries + 1
  | .held _ => 1
def uptoBulkAll {H : Type} : List (DataW H) → Nat
  | [] => 0
  | d :: r => uptoBulk d + uptoBulkAll r
def uptoBulkEntries {H : Type} : List (Lit × DataW H) → Nat
  | [] => 0
  | x :: r => uptoBulkEntry x + uptoBulkEntries r
def uptoBulkEntry {H : Type} : Lit × DataW H → Nat
  | (.string bytes, d) => bytes.length + uptoBulk d + 1
  | (_, d) => uptoBulk d + 1
 end
def uptoSmall : (H : Type) → List (DataW H) → Bool := fun _ ds => decide (uptoBulkAll ds ≤ 1048576)
def OpenSpec.upto (s : _root_.Go.ChangeSpec) : _root_.Go.OpenSpec := { _root_.Go.OpenSpec.ofChange s with cond := some uptoSmall }

/-- 'laws.FnTxLeft', WHERE WHAT IT READS IS OF BULK AT MOST 1048576: true; the input reads as it did. -/
def fnTxLeftUptoRow : OpenClaim := { program := "ytpiihfogdjihdaa", sum := "9b19c2322a6b8a0edca809ac22483ff5eeffe51f6bce22456cbf40f09c175383", func := "loop.example/linkboy/laws.FnTxLeft", spec := "fnTxLeft", apart := false, narrowed := true }
def FnTxLeftUptoSaid : Prop := fnTxLeftUptoRow.holds Try.pinned (OpenSpec.upto fnTxLeftSpec)

/-- 'laws.FnTxOk', WHERE WHAT IT READS IS OF BULK AT MOST 1048576: true; the input reads as it did. -/
def fnTxOkUptoRow : OpenClaim := { program := "ytpiihfogdjihdaa", sum := "9b19c2322a6b8a0edca809ac22483ff5eeffe51f6bce22456cbf40f09c175383", func := "loop.example/linkboy/laws.FnTxOk", spec := "fnTxOk", apart := false, narrowed := true }
def FnTxOkUptoSaid : Prop := fnTxOkUptoRow.holds Try.pinned (OpenSpec.upto fnTxOkSpec)

/-- 'laws.FnTxTick', WHERE WHAT IT READS IS OF BULK AT MOST 1048576: true; the input reads as it did. -/
def fnTxTickUptoRow : OpenClaim := { program := "ytpiihfogdjihdaa", sum := "9b19c2322a6b8a0edca809ac22483ff5eeffe51f6bce22456cbf40f09c175383", func := "loop.example/linkboy/laws.FnTxTick", spec := "fnTxTick", unfollowed := true, recurses := true, apart := false, narrowed := true }
def FnTxTickUptoSaid : Prop := fnTxTickUptoRow.holds Try.pinned (OpenSpec.upto fnTxTickSpec)

/-- 'laws.FnCrdTxOk', WHERE WHAT IT READS IS OF BULK AT MOST 1048576: true; the input reads as it did. -/
def fnCrdTxOkUptoRow : OpenClaim := { program := "ytpiihfogdjihdaa", sum := "9b19c2322a6b8a0edca809ac22483ff5eeffe51f6bce22456cbf40f09c175383", func := "loop.example/linkboy/laws.FnCrdTxOk", spec := "fnCrdTxOk", apart := false, narrowed := true }
def FnCrdTxOkUptoSaid : Prop := fnCrdTxOkUptoRow.holds Try.pinned (OpenSpec.upto fnCrdTxOkSpec)

end Rows
end Go.Proofs.Ytpiihfogdjihdaa
