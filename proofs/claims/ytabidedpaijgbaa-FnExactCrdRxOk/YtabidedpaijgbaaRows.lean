/-
  No cell of these rows narrows 'for every input' (looked for: loops, veiled, ifaces, maps, wideKeys, modest, calm, conditions, laid).
  DERIVED. THE GIVEN ROWS OF THIS SEAT. 10 by the template 'for every input the law returns true; each argument reads behind the call as it read before'; 0 by the template 'total and deterministic' (their statements: YtabidedpaijgbaaTotals.lean).
  GIVEN WITH THE SEED: the statements are not yours to turn. If you find one false, say at which input.
  Laid BY PROGRAM, IN A SANDBOX (cutbox-rows.mjs): the forced cells as the released guide's own fill.sh prints them over the translation 68f2f000280c9b9a… (all of the seat's roots in one cut). By AI agents, Wed Nov 11 2026. No macro, syntax, notation, axiom, sorry.
-/
import Derived.Test.YtabidedpaijgbaaChecked
import GoSem.Claim
import GoSem.ClaimJoined
import GoSem.ClaimMapViews
import Derived.JoinedTies
import Derived.KernelRfl
namespace Go.Proofs.Ytabidedpaijgbaa
/- THE CELL 'sum', in the pinned program and in every row, IS THE sha256 OF THE DUMP (.gsa) THAT YtabidedpaijgbaaProg.lean LOADS. Nothing in Lean hashes anything: it is a label: what it is worth is what the hold of that sum in a sandbox is worth. -/
noncomputable def Try.pinned : Pinned := { name := "ytabidedpaijgbaa", sum := "68f2f000280c9b9af87c5d995feab7de0af68805f00916ade09fbf46eb486498", checked := Try.checked }
namespace Rows
def none {H : Type} : Left H := { results := [], args := [] }

/-- 'laws.FnExactRxOk': WHATEVER THE INPUT: true; the input reads as it did. -/
def fnExactRxOkSpec : ChangeSpec := { name := "fnExactRxOk", fn := fun _ => fun
  | [d] => { results := [.lit (.bool true)], args := [d] }
  | _ => none }
def fnExactRxOkRow : OpenClaim := { program := "ytabidedpaijgbaa", sum := "68f2f000280c9b9af87c5d995feab7de0af68805f00916ade09fbf46eb486498", func := "loop.example/linkboy/laws.FnExactRxOk", spec := "fnExactRxOk", apart := false }
def FnExactRxOkSaid : Prop := fnExactRxOkRow.holds Try.pinned (OpenSpec.ofChange fnExactRxOkSpec)

/-- ITS FALSE NEIGHBOUR: 'it returns false'. Refute it at one input. -/
def fnExactRxOkWrong : ChangeSpec := { name := "fnExactRxOk", fn := fun _ => fun
  | [d] => { results := [.lit (.bool false)], args := [d] }
  | _ => none }
def FnExactRxOkWrongFalsely : Prop := fnExactRxOkRow.holds Try.pinned (OpenSpec.ofChange fnExactRxOkWrong)

/-- 'laws.FnExactRxAck': WHATEVER THE INPUT: true; the input reads as it did. -/
def fnExactRxAckSpec : ChangeSpec := { name := "fnExactRxAck", fn := fun _ => fun
  | [d] => { results := [.lit (.bool true)], args := [d] }
  | _ => none }
def fnExactRxAckRow : OpenClaim := { program := "ytabidedpaijgbaa", sum := "68f2f000280c9b9af87c5d995feab7de0af68805f00916ade09fbf46eb486498", func := "loop.example/linkboy/laws.FnExactRxAck", spec := "fnExactRxAck", apart := false }
def FnExactRxAckSaid : Prop := fnExactRxAckRow.holds Try.pinned (OpenSpec.ofChange fnExactRxAckSpec)

/-- ITS FALSE NEIGHBOUR: 'it returns false'. Refute it at one input. -/
def fnExactRxAckWrong : ChangeSpec := { name := "fnExactRxAck", fn := fun _ => fun
  | [d] => { results := [.lit (.bool false)], args := [d] }
  | _ => none }
def FnExactRxAckWrongFalsely : Prop := fnExactRxAckRow.holds Try.pinned (OpenSpec.ofChange fnExactRxAckWrong)

/-- 'laws.FnExactRxBusy': WHATEVER THE INPUT: true; the input reads as it did. -/
def fnExactRxBusySpec : ChangeSpec := { name := "fnExactRxBusy", fn := fun _ => fun
  | [d1, d2] => { results := [.lit (.bool true)], args := [d1, d2] }
  | _ => none }
def fnExactRxBusyRow : OpenClaim := { program := "ytabidedpaijgbaa", sum := "68f2f000280c9b9af87c5d995feab7de0af68805f00916ade09fbf46eb486498", func := "loop.example/linkboy/laws.FnExactRxBusy", spec := "fnExactRxBusy", unfollowed := true, recurses := true, apart := false }
def FnExactRxBusySaid : Prop := fnExactRxBusyRow.holds Try.pinned (OpenSpec.ofChange fnExactRxBusySpec)

/-- ITS FALSE NEIGHBOUR: 'it returns false'. Refute it at one input. -/
def fnExactRxBusyWrong : ChangeSpec := { name := "fnExactRxBusy", fn := fun _ => fun
  | [d1, d2] => { results := [.lit (.bool false)], args := [d1, d2] }
  | _ => none }
def FnExactRxBusyWrongFalsely : Prop := fnExactRxBusyRow.holds Try.pinned (OpenSpec.ofChange fnExactRxBusyWrong)

/-- 'laws.FnExactTxOk': WHATEVER THE INPUT: true; the input reads as it did. -/
def fnExactTxOkSpec : ChangeSpec := { name := "fnExactTxOk", fn := fun _ => fun
  | [d1, d2] => { results := [.lit (.bool true)], args := [d1, d2] }
  | _ => none }
def fnExactTxOkRow : OpenClaim := { program := "ytabidedpaijgbaa", sum := "68f2f000280c9b9af87c5d995feab7de0af68805f00916ade09fbf46eb486498", func := "loop.example/linkboy/laws.FnExactTxOk", spec := "fnExactTxOk", apart := false }
def FnExactTxOkSaid : Prop := fnExactTxOkRow.holds Try.pinned (OpenSpec.ofChange fnExactTxOkSpec)

/-- ITS FALSE NEIGHBOUR: 'it returns false'. Refute it at one input. -/
def fnExactTxOkWrong : ChangeSpec := { name := "fnExactTxOk", fn := fun _ => fun
  | [d1, d2] => { results := [.lit (.bool false)], args := [d1, d2] }
  | _ => none }
def FnExactTxOkWrongFalsely : Prop := fnExactTxOkRow.holds Try.pinned (OpenSpec.ofChange fnExactTxOkWrong)

/-- 'laws.FnExactTxLeft': WHATEVER THE INPUT: true; the input reads as it did. -/
def fnExactTxLeftSpec : ChangeSpec := { name := "fnExactTxLeft", fn := fun _ => fun
  | [d] => { results := [.lit (.bool true)], args := [d] }
  | _ => none }
def fnExactTxLeftRow : OpenClaim := { program := "ytabidedpaijgbaa", sum := "68f2f000280c9b9af87c5d995feab7de0af68805f00916ade09fbf46eb486498", func := "loop.example/linkboy/laws.FnExactTxLeft", spec := "fnExactTxLeft", apart := false }
def FnExactTxLeftSaid : Prop := fnExactTxLeftRow.holds Try.pinned (OpenSpec.ofChange fnExactTxLeftSpec)

/-- ITS FALSE NEIGHBOUR: 'it returns false'. Refute it at one input. -/
def fnExactTxLeftWrong : ChangeSpec := { name := "fnExactTxLeft", fn := fun _ => fun
  | [d] => { results := [.lit (.bool false)], args := [d] }
  | _ => none }
def FnExactTxLeftWrongFalsely : Prop := fnExactTxLeftRow.holds Try.pinned (OpenSpec.ofChange fnExactTxLeftWrong)

/-- 'laws.FnExactCrdTxOk': WHATEVER THE INPUT: true; the input reads as it did. -/
def fnExactCrdTxOkSpec : ChangeSpec := { name := "fnExactCrdTxOk", fn := fun _ => fun
  | [d1, d2] => { results := [.lit (.bool true)], args := [d1, d2] }
  | _ => none }
def fnExactCrdTxOkRow : OpenClaim := { program := "ytabidedpaijgbaa", sum := "68f2f000280c9b9af87c5d995feab7de0af68805f00916ade09fbf46eb486498", func := "loop.example/linkboy/laws.FnExactCrdTxOk", spec := "fnExactCrdTxOk", apart := false }
def FnExactCrdTxOkSaid : Prop := fnExactCrdTxOkRow.holds Try.pinned (OpenSpec.ofChange fnExactCrdTxOkSpec)

/-- ITS FALSE NEIGHBOUR: 'it returns false'. Refute it at one input. -/
def fnExactCrdTxOkWrong : ChangeSpec := { name := "fnExactCrdTxOk", fn := fun _ => fun
  | [d1, d2] => { results := [.lit (.bool false)], args := [d1, d2] }
  | _ => none }
def FnExactCrdTxOkWrongFalsely : Prop := fnExactCrdTxOkRow.holds Try.pinned (OpenSpec.ofChange fnExactCrdTxOkWrong)

/-- 'laws.FnExactCrdRxOk': WHATEVER THE INPUT: true; the input reads as it did. -/
def fnExactCrdRxOkSpec : ChangeSpec := { name := "fnExactCrdRxOk", fn := fun _ => fun
  | [d] => { results := [.lit (.bool true)], args := [d] }
  | _ => none }
def fnExactCrdRxOkRow : OpenClaim := { program := "ytabidedpaijgbaa", sum := "68f2f000280c9b9af87c5d995feab7de0af68805f00916ade09fbf46eb486498", func := "loop.example/linkboy/laws.FnExactCrdRxOk", spec := "fnExactCrdRxOk", apart := false }
def FnExactCrdRxOkSaid : Prop := fnExactCrdRxOkRow.holds Try.pinned (OpenSpec.ofChange fnExactCrdRxOkSpec)

/-- ITS FALSE NEIGHBOUR: 'it returns false'. Refute it at one input. -/
def fnExactCrdRxOkWrong : ChangeSpec := { name := "fnExactCrdRxOk", fn := fun _ => fun
  | [d] => { results := [.lit (.bool false)], args := [d] }
  | _ => none }
def FnExactCrdRxOkWrongFalsely : Prop := fnExactCrdRxOkRow.holds Try.pinned (OpenSpec.ofChange fnExactCrdRxOkWrong)

/-- 'laws.FnExactTxTick': WHATEVER THE INPUT: true; the input reads as it did. -/
def fnExactTxTickSpec : ChangeSpec := { name := "fnExactTxTick", fn := fun _ => fun
  | [d1, d2, d3, d4] => { results := [.lit (.bool true)], args := [d1, d2, d3, d4] }
  | _ => none }
def fnExactTxTickRow : OpenClaim := { program := "ytabidedpaijgbaa", sum := "68f2f000280c9b9af87c5d995feab7de0af68805f00916ade09fbf46eb486498", func := "loop.example/linkboy/laws.FnExactTxTick", spec := "fnExactTxTick", apart := false }
def FnExactTxTickSaid : Prop := fnExactTxTickRow.holds Try.pinned (OpenSpec.ofChange fnExactTxTickSpec)

/-- ITS FALSE NEIGHBOUR: 'it returns false'. Refute it at one input. -/
def fnExactTxTickWrong : ChangeSpec := { name := "fnExactTxTick", fn := fun _ => fun
  | [d1, d2, d3, d4] => { results := [.lit (.bool false)], args := [d1, d2, d3, d4] }
  | _ => none }
def FnExactTxTickWrongFalsely : Prop := fnExactTxTickRow.holds Try.pinned (OpenSpec.ofChange fnExactTxTickWrong)

/-- 'laws.FnExactTxPut': WHATEVER THE INPUT: true; the input reads as it did. -/
def fnExactTxPutSpec : ChangeSpec := { name := "fnExactTxPut", fn := fun _ => fun
  | [d1, d2, d3] => { results := [.lit (.bool true)], args := [d1, d2, d3] }
  | _ => none }
def fnExactTxPutRow : OpenClaim := { program := "ytabidedpaijgbaa", sum := "68f2f000280c9b9af87c5d995feab7de0af68805f00916ade09fbf46eb486498", func := "loop.example/linkboy/laws.FnExactTxPut", spec := "fnExactTxPut", apart := false }
def FnExactTxPutSaid : Prop := fnExactTxPutRow.holds Try.pinned (OpenSpec.ofChange fnExactTxPutSpec)

/-- ITS FALSE NEIGHBOUR: 'it returns false'. Refute it at one input. -/
def fnExactTxPutWrong : ChangeSpec := { name := "fnExactTxPut", fn := fun _ => fun
  | [d1, d2, d3] => { results := [.lit (.bool false)], args := [d1, d2, d3] }
  | _ => none }
def FnExactTxPutWrongFalsely : Prop := fnExactTxPutRow.holds Try.pinned (OpenSpec.ofChange fnExactTxPutWrong)

/-- 'laws.FnExactCrdPut': WHATEVER THE INPUT: true; the input reads as it did. -/
def fnExactCrdPutSpec : ChangeSpec := { name := "fnExactCrdPut", fn := fun _ => fun
  | [d1, d2, d3] => { results := [.lit (.bool true)], args := [d1, d2, d3] }
  | _ => none }
def fnExactCrdPutRow : OpenClaim := { program := "ytabidedpaijgbaa", sum := "68f2f000280c9b9af87c5d995feab7de0af68805f00916ade09fbf46eb486498", func := "loop.example/linkboy/laws.FnExactCrdPut", spec := "fnExactCrdPut", apart := false }
def FnExactCrdPutSaid : Prop := fnExactCrdPutRow.holds Try.pinned (OpenSpec.ofChange fnExactCrdPutSpec)

/-- ITS FALSE NEIGHBOUR: 'it returns false'. Refute it at one input. -/
def fnExactCrdPutWrong : ChangeSpec := { name := "fnExactCrdPut", fn := fun _ => fun
  | [d1, d2, d3] => { results := [.lit (.bool false)], args := [d1, d2, d3] }
  | _ => none }
def FnExactCrdPutWrongFalsely : Prop := fnExactCrdPutRow.holds Try.pinned (OpenSpec.ofChange fnExactCrdPutWrong)

/- THE SECOND FORM. 'bulk': how many values and letters a reading holds, each counted each time it is reached (what is shared counts as often as it is met; a slice's spare places count too). A statement '..UptoSaid' is the law's where the arguments, and the package variables that the reading takes, are together of bulk at most 1048576: NARROWER than '..Said'. Prove '..Said' where nothing that the law and all that it calls make is longer than what came in: it says more and counts as full. Else prove '..UptoSaid'. A law counts once. -/
mutual
def uptoBulk {H : Type} : DataW H → Nat
  | .lit (.string bytes) => bytes.length + 1
  | .lit _ => 1
  | .nil => 1
  | .ptr d => uptoBulk d + 1
  | .slice elems spare => uptoBulkAll elems + uptoBulkAll spare + 1
  | .agg parts => uptoBulkAll parts + 1
  | .iface _ d => uptoBulk d + 1
  | .map entries => uptoBulkEntries entries + 1
  | .held _ => 1
def uptoBulkAll {H : Type} : List (DataW H) → Nat
  | [] => 0
  | d :: r => uptoBulk d + uptoBulkAll r
def uptoBulkEntries {H : Type} : List (Lit × DataW H) → Nat
  | [] => 0
  | x :: r => uptoBulkEntry x + uptoBulkEntries r
def uptoBulkEntry {H : Type} : Lit × DataW H → Nat
  | (.string bytes, d) => bytes.length + uptoBulk d + 1
  | (_, d) => uptoBulk d + 1
 end
def uptoSmall : (H : Type) → List (DataW H) → Bool := fun _ ds => decide (uptoBulkAll ds ≤ 1048576)
def OpenSpec.upto (s : _root_.Go.ChangeSpec) : _root_.Go.OpenSpec := { _root_.Go.OpenSpec.ofChange s with cond := some uptoSmall }

/-- 'laws.FnExactRxOk', WHERE WHAT IT READS IS OF BULK AT MOST 1048576: true; the input reads as it did. -/
def fnExactRxOkUptoRow : OpenClaim := { program := "ytabidedpaijgbaa", sum := "68f2f000280c9b9af87c5d995feab7de0af68805f00916ade09fbf46eb486498", func := "loop.example/linkboy/laws.FnExactRxOk", spec := "fnExactRxOk", apart := false, narrowed := true }
def FnExactRxOkUptoSaid : Prop := fnExactRxOkUptoRow.holds Try.pinned (OpenSpec.upto fnExactRxOkSpec)

/-- 'laws.FnExactRxAck', WHERE WHAT IT READS IS OF BULK AT MOST 1048576: true; the input reads as it did. -/
def fnExactRxAckUptoRow : OpenClaim := { program := "ytabidedpaijgbaa", sum := "68f2f000280c9b9af87c5d995feab7de0af68805f00916ade09fbf46eb486498", func := "loop.example/linkboy/laws.FnExactRxAck", spec := "fnExactRxAck", apart := false, narrowed := true }
def FnExactRxAckUptoSaid : Prop := fnExactRxAckUptoRow.holds Try.pinned (OpenSpec.upto fnExactRxAckSpec)

/-- 'laws.FnExactRxBusy', WHERE WHAT IT READS IS OF BULK AT MOST 1048576: true; the input reads as it did. -/
def fnExactRxBusyUptoRow : OpenClaim := { program := "ytabidedpaijgbaa", sum := "68f2f000280c9b9af87c5d995feab7de0af68805f00916ade09fbf46eb486498", func := "loop.example/linkboy/laws.FnExactRxBusy", spec := "fnExactRxBusy", unfollowed := true, recurses := true, apart := false, narrowed := true }
def FnExactRxBusyUptoSaid : Prop := fnExactRxBusyUptoRow.holds Try.pinned (OpenSpec.upto fnExactRxBusySpec)

/-- 'laws.FnExactTxOk', WHERE WHAT IT READS IS OF BULK AT MOST 1048576: true; the input reads as it did. -/
def fnExactTxOkUptoRow : OpenClaim := { program := "ytabidedpaijgbaa", sum := "68f2f000280c9b9af87c5d995feab7de0af68805f00916ade09fbf46eb486498", func := "loop.example/linkboy/laws.FnExactTxOk", spec := "fnExactTxOk", apart := false, narrowed := true }
def FnExactTxOkUptoSaid : Prop := fnExactTxOkUptoRow.holds Try.pinned (OpenSpec.upto fnExactTxOkSpec)

/-- 'laws.FnExactTxLeft', WHERE WHAT IT READS IS OF BULK AT MOST 1048576: true; the input reads as it did. -/
def fnExactTxLeftUptoRow : OpenClaim := { program := "ytabidedpaijgbaa", sum := "68f2f000280c9b9af87c5d995feab7de0af68805f00916ade09fbf46eb486498", func := "loop.example/linkboy/laws.FnExactTxLeft", spec := "fnExactTxLeft", apart := false, narrowed := true }
def FnExactTxLeftUptoSaid : Prop := fnExactTxLeftUptoRow.holds Try.pinned (OpenSpec.upto fnExactTxLeftSpec)

/-- 'laws.FnExactCrdTxOk', WHERE WHAT IT READS IS OF BULK AT MOST 1048576: true; the input reads as it did. -/
def fnExactCrdTxOkUptoRow : OpenClaim := { program := "ytabidedpaijgbaa", sum := "68f2f000280c9b9af87c5d995feab7de0af68805f00916ade09fbf46eb486498", func := "loop.example/linkboy/laws.FnExactCrdTxOk", spec := "fnExactCrdTxOk", apart := false, narrowed := true }
def FnExactCrdTxOkUptoSaid : Prop := fnExactCrdTxOkUptoRow.holds Try.pinned (OpenSpec.upto fnExactCrdTxOkSpec)

/-- 'laws.FnExactCrdRxOk', WHERE WHAT IT READS IS OF BULK AT MOST 1048576: true; the input reads as it did. -/
def fnExactCrdRxOkUptoRow : OpenClaim := { program := "ytabidedpaijgbaa", sum := "68f2f000280c9b9af87c5d995feab7de0af68805f00916ade09fbf46eb486498", func := "loop.example/linkboy/laws.FnExactCrdRxOk", spec := "fnExactCrdRxOk", apart := false, narrowed := true }
def FnExactCrdRxOkUptoSaid : Prop := fnExactCrdRxOkUptoRow.holds Try.pinned (OpenSpec.upto fnExactCrdRxOkSpec)

/-- 'laws.FnExactTxTick', WHERE WHAT IT READS IS OF BULK AT MOST 1048576: true; the input reads as it did. -/
def fnExactTxTickUptoRow : OpenClaim := { program := "ytabidedpaijgbaa", sum := "68f2f000280c9b9af87c5d995feab7de0af68805f00916ade09fbf46eb486498", func := "loop.example/linkboy/laws.FnExactTxTick", spec := "fnExactTxTick", apart := false, narrowed := true }
def FnExactTxTickUptoSaid : Prop := fnExactTxTickUptoRow.holds Try.pinned (OpenSpec.upto fnExactTxTickSpec)

/-- 'laws.FnExactTxPut', WHERE WHAT IT READS IS OF BULK AT MOST 1048576: true; the input reads as it did. -/
def fnExactTxPutUptoRow : OpenClaim := { program := "ytabidedpaijgbaa", sum := "68f2f000280c9b9af87c5d995feab7de0af68805f00916ade09fbf46eb486498", func := "loop.example/linkboy/laws.FnExactTxPut", spec := "fnExactTxPut", apart := false, narrowed := true }
def FnExactTxPutUptoSaid : Prop := fnExactTxPutUptoRow.holds Try.pinned (OpenSpec.upto fnExactTxPutSpec)

/-- 'laws.FnExactCrdPut', WHERE WHAT IT READS IS OF BULK AT MOST 1048576: true; the input reads as it did. -/
def fnExactCrdPutUptoRow : OpenClaim := { program := "ytabidedpaijgbaa", sum := "68f2f000280c9b9af87c5d995feab7de0af68805f00916ade09fbf46eb486498", func := "loop.example/linkboy/laws.FnExactCrdPut", spec := "fnExactCrdPut", apart := false, narrowed := true }
def FnExactCrdPutUptoSaid : Prop := fnExactCrdPutUptoRow.holds Try.pinned (OpenSpec.upto fnExactCrdPutSpec)

end Rows
end Go.Proofs.Ytabidedpaijgbaa
