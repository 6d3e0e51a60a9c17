/-
  No cell of these rows narrows 'for every input' (looked for: loops, veiled, ifaces, maps, wideKeys, modest, calm, conditions, laid).
  DERIVED. THE GIVEN ROWS OF THIS SEAT. 2 by the template 'for every input the law returns true; each argument reads behind the call as it read before'; 0 by the template 'total and deterministic' (their statements: YtenpapohimhdbaaTotals.lean).
  GIVEN WITH THE SEED: the statements are not yours to turn. If you find one false, say at which input.
  Laid BY PROGRAM, IN A SANDBOX (cutbox-rows.mjs): the forced cells as the released guide's own fill.sh prints them over the translation e7215664e7066199… (all of the seat's roots in one cut). By AI agents, Wed Nov 11 2026. No macro, syntax, notation, axiom, sorry.
-/
import Derived.Test.YtenpapohimhdbaaChecked
import GoSem.Claim
import GoSem.ClaimJoined
import GoSem.ClaimMapViews
import Derived.JoinedTies
import Derived.KernelRfl
namespace Go.Proofs.Ytenpapohimhdbaa
/- THE CELL 'sum', in the pinned program and in every row, IS THE sha256 OF THE DUMP (.gsa) THAT YtenpapohimhdbaaProg.lean LOADS. Nothing in Lean hashes anything: it is a label: what it is worth is what the hold of that sum in a sandbox is worth. -/
noncomputable def Try.pinned : Pinned := { name := "ytenpapohimhdbaa", sum := "e7215664e70661996ed48f6097173c83ddac97b39fa4be74f9a3ccd5c752e0c8", checked := Try.checked }
namespace Rows
def none {H : Type} : Left H := { results := [], args := [] }

/-- 'laws.FnExactRxBusy': WHATEVER THE INPUT: true; the input reads as it did. -/
def fnExactRxBusySpec : ChangeSpec := { name := "fnExactRxBusy", fn := fun _ => fun
  | [d1, d2] => { results := [.lit (.bool true)], args := [d1, d2] }
  | _ => none }
def fnExactRxBusyRow : OpenClaim := { program := "ytenpapohimhdbaa", sum := "e7215664e70661996ed48f6097173c83ddac97b39fa4be74f9a3ccd5c752e0c8", func := "loop.example/linkboy/laws.FnExactRxBusy", spec := "fnExactRxBusy", unfollowed := true, recurses := true, apart := false }
def FnExactRxBusySaid : Prop := fnExactRxBusyRow.holds Try.pinned (OpenSpec.ofChange fnExactRxBusySpec)

/-- ITS FALSE NEIGHBOUR: 'it returns false'. Refute it at one input. -/
def fnExactRxBusyWrong : ChangeSpec := { name := "fnExactRxBusy", fn := fun _ => fun
  | [d1, d2] => { results := [.lit (.bool false)], args := [d1, d2] }
  | _ => none }
def FnExactRxBusyWrongFalsely : Prop := fnExactRxBusyRow.holds Try.pinned (OpenSpec.ofChange fnExactRxBusyWrong)

/-- 'laws.FnExactRxAck': WHATEVER THE INPUT: true; the input reads as it did. -/
def fnExactRxAckSpec : ChangeSpec := { name := "fnExactRxAck", fn := fun _ => fun
  | [d] => { results := [.lit (.bool true)], args := [d] }
  | _ => none }
def fnExactRxAckRow : OpenClaim := { program := "ytenpapohimhdbaa", sum := "e7215664e70661996ed48f6097173c83ddac97b39fa4be74f9a3ccd5c752e0c8", func := "loop.example/linkboy/laws.FnExactRxAck", spec := "fnExactRxAck", apart := false }
def FnExactRxAckSaid : Prop := fnExactRxAckRow.holds Try.pinned (OpenSpec.ofChange fnExactRxAckSpec)

/-- ITS FALSE NEIGHBOUR: 'it returns false'. Refute it at one input. -/
def fnExactRxAckWrong : ChangeSpec := { name := "fnExactRxAck", fn := fun _ => fun
  | [d] => { results := [.lit (.bool false)], args := [d] }
  | _ => none }
def FnExactRxAckWrongFalsely : Prop := fnExactRxAckRow.holds Try.pinned (OpenSpec.ofChange fnExactRxAckWrong)

/- THE SECOND FORM. 'bulk': how many values and letters a reading holds, each counted each time it is reached (what is shared counts as often as it is met; a slice's spare places count too). A statement '..UptoSaid' is the law's where the arguments, and the package variables that the reading takes, are together of bulk at most 1048576: NARROWER than '..Said'. Prove '..Said' where nothing that the law and all that it calls make is longer than what came in: it says more and counts as full. Else prove '..UptoSaid'. A law counts once. -/
mutual
def uptoBulk {H : Type} : DataW H → Nat
  | .lit (.string bytes) => bytes.length + 1
  | .lit _ => 1
  | .nil => 1
  | .ptr d => uptoBulk d + 1
  | .slice elems spare => uptoBulkAll elems + uptoBulkAll spare + 1
  | .agg parts => uptoBulkAll parts + 1
  | .iface _ d => uptoBulk d + 1
  | .map entries => uptoBulkEntries entries + 1
  | .held _ => 1
def uptoBulkAll {H : Type} : List (DataW H) → Nat
  | [] => 0
  | d :: r => uptoBulk d + uptoBulkAll r
def uptoBulkEntries {H : Type} : List (Lit × DataW H) → Nat
  | [] => 0
  | x :: r => uptoBulkEntry x + uptoBulkEntries r
def uptoBulkEntry {H : Type} : Lit × DataW H → Nat
  | (.string bytes, d) => bytes.length + uptoBulk d + 1
  | (_, d) => uptoBulk d + 1
 end
def uptoSmall : (H : Type) → List (DataW H) → Bool := fun _ ds => decide (uptoBulkAll ds ≤ 1048576)
def OpenSpec.upto (s : _root_.Go.ChangeSpec) : _root_.Go.OpenSpec := { _root_.Go.OpenSpec.ofChange s with cond := some uptoSmall }

/-- 'laws.FnExactRxBusy', WHERE WHAT IT READS IS OF BULK AT MOST 1048576: true; the input reads as it did. -/
def fnExactRxBusyUptoRow : OpenClaim := { program := "ytenpapohimhdbaa", sum := "e7215664e70661996ed48f6097173c83ddac97b39fa4be74f9a3ccd5c752e0c8", func := "loop.example/linkboy/laws.FnExactRxBusy", spec := "fnExactRxBusy", unfollowed := true, recurses := true, apart := false, narrowed := true }
def FnExactRxBusyUptoSaid : Prop := fnExactRxBusyUptoRow.holds Try.pinned (OpenSpec.upto fnExactRxBusySpec)

/-- 'laws.FnExactRxAck', WHERE WHAT IT READS IS OF BULK AT MOST 1048576: true; the input reads as it did. -/
def fnExactRxAckUptoRow : OpenClaim := { program := "ytenpapohimhdbaa", sum := "e7215664e70661996ed48f6097173c83ddac97b39fa4be74f9a3ccd5c752e0c8", func := "loop.example/linkboy/laws.FnExactRxAck", spec := "fnExactRxAck", apart := false, narrowed := true }
def FnExactRxAckUptoSaid : Prop := fnExactRxAckUptoRow.holds Try.pinned (OpenSpec.upto fnExactRxAckSpec)

end Rows
end Go.Proofs.Ytenpapohimhdbaa
