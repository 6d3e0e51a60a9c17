/-
  No cell of these rows narrows 'for every input' (looked for: loops, veiled, ifaces, maps, wideKeys, modest, calm, conditions, laid).
  DERIVED. THE GIVEN ROWS OF THIS SEAT. 10 by the template 'for every input the law returns true; each argument reads behind the call as it read before'; 0 by the template 'total and deterministic' (their statements: YtkogmnjgpaocbaaTotals.lean).
  GIVEN WITH THE SEED: the statements are not yours to turn. If you find one false, say at which input.
  Laid BY PROGRAM, IN A SANDBOX (cutbox-rows.mjs): the forced cells as the released guide's own fill.sh prints them over the translation 036e9730fa426335… (all of the seat's roots in one cut). By AI agents, Wed Nov 11 2026. No macro, syntax, notation, axiom, sorry.
-/
import Derived.Test.YtkogmnjgpaocbaaChecked
import GoSem.Claim
import GoSem.ClaimJoined
import GoSem.ClaimMapViews
import Derived.JoinedTies
import Derived.KernelRfl
namespace Go.Proofs.Ytkogmnjgpaocbaa
/- THE CELL 'sum', in the pinned program and in every row, IS THE sha256 OF THE DUMP (.gsa) THAT YtkogmnjgpaocbaaProg.lean LOADS. Nothing in Lean hashes anything: it is a label: what it is worth is what the hold of that sum in a sandbox is worth. -/
noncomputable def Try.pinned : Pinned := { name := "ytkogmnjgpaocbaa", sum := "036e9730fa42633567c633652a093b6932ff778fac7e06452e1ebc28c08dd524", checked := Try.checked }
namespace Rows
def none {H : Type} : Left H := { results := [], args := [] }

/-- 'laws.FnRxOk': WHATEVER THE INPUT: true; the input reads as it did. -/
def fnRxOkSpec : ChangeSpec := { name := "fnRxOk", fn := fun _ => fun
  | [d] => { results := [.lit (.bool true)], args := [d] }
  | _ => none }
def fnRxOkRow : OpenClaim := { program := "ytkogmnjgpaocbaa", sum := "036e9730fa42633567c633652a093b6932ff778fac7e06452e1ebc28c08dd524", func := "loop.example/linkboy/laws.FnRxOk", spec := "fnRxOk", apart := false }
def FnRxOkSaid : Prop := fnRxOkRow.holds Try.pinned (OpenSpec.ofChange fnRxOkSpec)

/-- ITS FALSE NEIGHBOUR: 'it returns false'. Refute it at one input. -/
def fnRxOkWrong : ChangeSpec := { name := "fnRxOk", fn := fun _ => fun
  | [d] => { results := [.lit (.bool false)], args := [d] }
  | _ => none }
def FnRxOkWrongFalsely : Prop := fnRxOkRow.holds Try.pinned (OpenSpec.ofChange fnRxOkWrong)

/-- 'laws.FnCrdRxOk': WHATEVER THE INPUT: true; the input reads as it did. -/
def fnCrdRxOkSpec : ChangeSpec := { name := "fnCrdRxOk", fn := fun _ => fun
  | [d] => { results := [.lit (.bool true)], args := [d] }
  | _ => none }
def fnCrdRxOkRow : OpenClaim := { program := "ytkogmnjgpaocbaa", sum := "036e9730fa42633567c633652a093b6932ff778fac7e06452e1ebc28c08dd524", func := "loop.example/linkboy/laws.FnCrdRxOk", spec := "fnCrdRxOk", apart := false }
def FnCrdRxOkSaid : Prop := fnCrdRxOkRow.holds Try.pinned (OpenSpec.ofChange fnCrdRxOkSpec)

/-- ITS FALSE NEIGHBOUR: 'it returns false'. Refute it at one input. -/
def fnCrdRxOkWrong : ChangeSpec := { name := "fnCrdRxOk", fn := fun _ => fun
  | [d] => { results := [.lit (.bool false)], args := [d] }
  | _ => none }
def FnCrdRxOkWrongFalsely : Prop := fnCrdRxOkRow.holds Try.pinned (OpenSpec.ofChange fnCrdRxOkWrong)

/-- 'laws.FnFrmOk': WHATEVER THE INPUT: true; the input reads as it did. -/
def fnFrmOkSpec : ChangeSpec := { name := "fnFrmOk", fn := fun _ => fun
  | [d] => { results := [.lit (.bool true)], args := [d] }
  | _ => none }
def fnFrmOkRow : OpenClaim := { program := "ytkogmnjgpaocbaa", sum := "036e9730fa42633567c633652a093b6932ff778fac7e06452e1ebc28c08dd524", func := "loop.example/linkboy/laws.FnFrmOk", spec := "fnFrmOk", unfollowed := true, recurses := true, apart := false }
def FnFrmOkSaid : Prop := fnFrmOkRow.holds Try.pinned (OpenSpec.ofChange fnFrmOkSpec)

/-- ITS FALSE NEIGHBOUR: 'it returns false'. Refute it at one input. -/
def fnFrmOkWrong : ChangeSpec := { name := "fnFrmOk", fn := fun _ => fun
  | [d] => { results := [.lit (.bool false)], args := [d] }
  | _ => none }
def FnFrmOkWrongFalsely : Prop := fnFrmOkRow.holds Try.pinned (OpenSpec.ofChange fnFrmOkWrong)

/-- 'laws.FnCrcLinear': WHATEVER THE INPUT: true; the input reads as it did. -/
def fnCrcLinearSpec : ChangeSpec := { name := "fnCrcLinear", fn := fun _ => fun
  | [d1, d2] => { results := [.lit (.bool true)], args := [d1, d2] }
  | _ => none }
def fnCrcLinearRow : OpenClaim := { program := "ytkogmnjgpaocbaa", sum := "036e9730fa42633567c633652a093b6932ff778fac7e06452e1ebc28c08dd524", func := "loop.example/linkboy/laws.FnCrcLinear", spec := "fnCrcLinear", unfollowed := true, recurses := true, apart := false }
def FnCrcLinearSaid : Prop := fnCrcLinearRow.holds Try.pinned (OpenSpec.ofChange fnCrcLinearSpec)

/-- ITS FALSE NEIGHBOUR: 'it returns false'. Refute it at one input. -/
def fnCrcLinearWrong : ChangeSpec := { name := "fnCrcLinear", fn := fun _ => fun
  | [d1, d2] => { results := [.lit (.bool false)], args := [d1, d2] }
  | _ => none }
def FnCrcLinearWrongFalsely : Prop := fnCrcLinearRow.holds Try.pinned (OpenSpec.ofChange fnCrcLinearWrong)

/-- 'laws.FnRxAck': WHATEVER THE INPUT: true; the input reads as it did. -/
def fnRxAckSpec : ChangeSpec := { name := "fnRxAck", fn := fun _ => fun
  | [d] => { results := [.lit (.bool true)], args := [d] }
  | _ => none }
def fnRxAckRow : OpenClaim := { program := "ytkogmnjgpaocbaa", sum := "036e9730fa42633567c633652a093b6932ff778fac7e06452e1ebc28c08dd524", func := "loop.example/linkboy/laws.FnRxAck", spec := "fnRxAck", unfollowed := true, recurses := true, apart := false }
def FnRxAckSaid : Prop := fnRxAckRow.holds Try.pinned (OpenSpec.ofChange fnRxAckSpec)

/-- ITS FALSE NEIGHBOUR: 'it returns false'. Refute it at one input. -/
def fnRxAckWrong : ChangeSpec := { name := "fnRxAck", fn := fun _ => fun
  | [d] => { results := [.lit (.bool false)], args := [d] }
  | _ => none }
def FnRxAckWrongFalsely : Prop := fnRxAckRow.holds Try.pinned (OpenSpec.ofChange fnRxAckWrong)

/-- 'laws.FnRxBusy': WHATEVER THE INPUT: true; the input reads as it did. -/
def fnRxBusySpec : ChangeSpec := { name := "fnRxBusy", fn := fun _ => fun
  | [d] => { results := [.lit (.bool true)], args := [d] }
  | _ => none }
def fnRxBusyRow : OpenClaim := { program := "ytkogmnjgpaocbaa", sum := "036e9730fa42633567c633652a093b6932ff778fac7e06452e1ebc28c08dd524", func := "loop.example/linkboy/laws.FnRxBusy", spec := "fnRxBusy", unfollowed := true, recurses := true, apart := false }
def FnRxBusySaid : Prop := fnRxBusyRow.holds Try.pinned (OpenSpec.ofChange fnRxBusySpec)

/-- ITS FALSE NEIGHBOUR: 'it returns false'. Refute it at one input. -/
def fnRxBusyWrong : ChangeSpec := { name := "fnRxBusy", fn := fun _ => fun
  | [d] => { results := [.lit (.bool false)], args := [d] }
  | _ => none }
def FnRxBusyWrongFalsely : Prop := fnRxBusyRow.holds Try.pinned (OpenSpec.ofChange fnRxBusyWrong)

/-- 'laws.FnRxTwice': WHATEVER THE INPUT: true; the input reads as it did. -/
def fnRxTwiceSpec : ChangeSpec := { name := "fnRxTwice", fn := fun _ => fun
  | [d] => { results := [.lit (.bool true)], args := [d] }
  | _ => none }
def fnRxTwiceRow : OpenClaim := { program := "ytkogmnjgpaocbaa", sum := "036e9730fa42633567c633652a093b6932ff778fac7e06452e1ebc28c08dd524", func := "loop.example/linkboy/laws.FnRxTwice", spec := "fnRxTwice", unfollowed := true, recurses := true, apart := false }
def FnRxTwiceSaid : Prop := fnRxTwiceRow.holds Try.pinned (OpenSpec.ofChange fnRxTwiceSpec)

/-- ITS FALSE NEIGHBOUR: 'it returns false'. Refute it at one input. -/
def fnRxTwiceWrong : ChangeSpec := { name := "fnRxTwice", fn := fun _ => fun
  | [d] => { results := [.lit (.bool false)], args := [d] }
  | _ => none }
def FnRxTwiceWrongFalsely : Prop := fnRxTwiceRow.holds Try.pinned (OpenSpec.ofChange fnRxTwiceWrong)

/-- 'laws.FnTxLeft': WHATEVER THE INPUT: true; the input reads as it did. -/
def fnTxLeftSpec : ChangeSpec := { name := "fnTxLeft", fn := fun _ => fun
  | [d] => { results := [.lit (.bool true)], args := [d] }
  | _ => none }
def fnTxLeftRow : OpenClaim := { program := "ytkogmnjgpaocbaa", sum := "036e9730fa42633567c633652a093b6932ff778fac7e06452e1ebc28c08dd524", func := "loop.example/linkboy/laws.FnTxLeft", spec := "fnTxLeft", apart := false }
def FnTxLeftSaid : Prop := fnTxLeftRow.holds Try.pinned (OpenSpec.ofChange fnTxLeftSpec)

/-- ITS FALSE NEIGHBOUR: 'it returns false'. Refute it at one input. -/
def fnTxLeftWrong : ChangeSpec := { name := "fnTxLeft", fn := fun _ => fun
  | [d] => { results := [.lit (.bool false)], args := [d] }
  | _ => none }
def FnTxLeftWrongFalsely : Prop := fnTxLeftRow.holds Try.pinned (OpenSpec.ofChange fnTxLeftWrong)

/-- 'laws.FnTxOk': WHATEVER THE INPUT: true; the input reads as it did. -/
def fnTxOkSpec : ChangeSpec := { name := "fnTxOk", fn := fun _ => fun
  | [d] => { results := [.lit (.bool true)], args := [d] }
  | _ => none }
def fnTxOkRow : OpenClaim := { program := "ytkogmnjgpaocbaa", sum := "036e9730fa42633567c633652a093b6932ff778fac7e06452e1ebc28c08dd524", func := "loop.example/linkboy/laws.FnTxOk", spec := "fnTxOk", apart := false }
def FnTxOkSaid : Prop := fnTxOkRow.holds Try.pinned (OpenSpec.ofChange fnTxOkSpec)

/-- ITS FALSE NEIGHBOUR: 'it returns false'. Refute it at one input. -/
def fnTxOkWrong : ChangeSpec := { name := "fnTxOk", fn := fun _ => fun
  | [d] => { results := [.lit (.bool false)], args := [d] }
  | _ => none }
def FnTxOkWrongFalsely : Prop := fnTxOkRow.holds Try.pinned (OpenSpec.ofChange fnTxOkWrong)

/-- 'laws.FnCrdTxOk': WHATEVER THE INPUT: true; the input reads as it did. -/
def fnCrdTxOkSpec : ChangeSpec := { name := "fnCrdTxOk", fn := fun _ => fun
  | [d] => { results := [.lit (.bool true)], args := [d] }
  | _ => none }
def fnCrdTxOkRow : OpenClaim := { program := "ytkogmnjgpaocbaa", sum := "036e9730fa42633567c633652a093b6932ff778fac7e06452e1ebc28c08dd524", func := "loop.example/linkboy/laws.FnCrdTxOk", spec := "fnCrdTxOk", apart := false }
def FnCrdTxOkSaid : Prop := fnCrdTxOkRow.holds Try.pinned (OpenSpec.ofChange fnCrdTxOkSpec)

/-- ITS FALSE NEIGHBOUR: 'it returns false'. Refute it at one input. -/
def fnCrdTxOkWrong : ChangeSpec := { name := "fnCrdTxOk", fn := fun _ => fun
  | [d] => { results := [.lit (.bool false)], args := [d] }
  | _ => none }
def FnCrdTxOkWrongFalsely : Prop := fnCrdTxOkRow.holds Try.pinned (OpenSpec.ofChange fnCrdTxOkWrong)

/- THE SECOND FORM. 'bulk': how many values and letters a reading holds, each counted each time it is reached (what is shared counts as often as it is met; a slice's spare places count too). A statement '..UptoSaid' is the law's where the arguments, and the package variables that the reading takes, are together of bulk at most 1048576: NARROWER than '..Said'. Prove '..Said' where nothing that the law and all that it calls make is longer than what came in: it says more and counts as full. Else prove '..UptoSaid'. A law counts once. -/
mutual
def uptoBulk {H : Type} : DataW H → Nat
  | .lit (.string bytes) => bytes.length + 1
  | .lit _ => 1
  | .nil => 1
  | .ptr d => uptoBulk d + 1
  | .slice elems spare => uptoBulkAll elems + uptoBulkAll spare + 1
  | .agg parts => uptoBulkAll parts + 1
  | .iface _ d => uptoBulk d + 1
  | .map entries => uptoBulkEntries entries + 1
  | .held _ => 1
def uptoBulkAll {H : Type} : List (DataW H) → Nat
  | [] => 0
  | d :: r => uptoBulk d + uptoBulkAll r
def uptoBulkEntries {H : Type} : List (Lit × DataW H) → Nat
  | [] => 0
  | x :: r => uptoBulkEntry x + uptoBulkEntries r
def uptoBulkEntry {H : Type} : Lit × DataW H → Nat
  | (.string bytes, d) => bytes.length + uptoBulk d + 1
  | (_, d) => uptoBulk d + 1
 end
def uptoSmall : (H : Type) → List (DataW H) → Bool := fun _ ds => decide (uptoBulkAll ds ≤ 1048576)
def OpenSpec.upto (s : _root_.Go.ChangeSpec) : _root_.Go.OpenSpec := { _root_.Go.OpenSpec.ofChange s with cond := some uptoSmall }

/-- 'laws.FnRxOk', WHERE WHAT IT READS IS OF BULK AT MOST 1048576: true; the input reads as it did. -/
def fnRxOkUptoRow : OpenClaim := { program := "ytkogmnjgpaocbaa", sum := "036e9730fa42633567c633652a093b6932ff778fac7e06452e1ebc28c08dd524", func := "loop.example/linkboy/laws.FnRxOk", spec := "fnRxOk", apart := false, narrowed := true }
def FnRxOkUptoSaid : Prop := fnRxOkUptoRow.holds Try.pinned (OpenSpec.upto fnRxOkSpec)

/-- 'laws.FnCrdRxOk', WHERE WHAT IT READS IS OF BULK AT MOST 1048576: true; the input reads as it did. -/
def fnCrdRxOkUptoRow : OpenClaim := { program := "ytkogmnjgpaocbaa", sum := "036e9730fa42633567c633652a093b6932ff778fac7e06452e1ebc28c08dd524", func := "loop.example/linkboy/laws.FnCrdRxOk", spec := "fnCrdRxOk", apart := false, narrowed := true }
def FnCrdRxOkUptoSaid : Prop := fnCrdRxOkUptoRow.holds Try.pinned (OpenSpec.upto fnCrdRxOkSpec)

/-- 'laws.FnFrmOk', WHERE WHAT IT READS IS OF BULK AT MOST 1048576: true; the input reads as it did. -/
def fnFrmOkUptoRow : OpenClaim := { program := "ytkogmnjgpaocbaa", sum := "036e9730fa42633567c633652a093b6932ff778fac7e06452e1ebc28c08dd524", func := "loop.example/linkboy/laws.FnFrmOk", spec := "fnFrmOk", unfollowed := true, recurses := true, apart := false, narrowed := true }
def FnFrmOkUptoSaid : Prop := fnFrmOkUptoRow.holds Try.pinned (OpenSpec.upto fnFrmOkSpec)

/-- 'laws.FnCrcLinear', WHERE WHAT IT READS IS OF BULK AT MOST 1048576: true; the input reads as it did. -/
def fnCrcLinearUptoRow : OpenClaim := { program := "ytkogmnjgpaocbaa", sum := "036e9730fa42633567c633652a093b6932ff778fac7e06452e1ebc28c08dd524", func := "loop.example/linkboy/laws.FnCrcLinear", spec := "fnCrcLinear", unfollowed := true, recurses := true, apart := false, narrowed := true }
def FnCrcLinearUptoSaid : Prop := fnCrcLinearUptoRow.holds Try.pinned (OpenSpec.upto fnCrcLinearSpec)

/-- 'laws.FnRxAck', WHERE WHAT IT READS IS OF BULK AT MOST 1048576: true; the input reads as it did. -/
def fnRxAckUptoRow : OpenClaim := { program := "ytkogmnjgpaocbaa", sum := "036e9730fa42633567c633652a093b6932ff778fac7e06452e1ebc28c08dd524", func := "loop.example/linkboy/laws.FnRxAck", spec := "fnRxAck", unfollowed := true, recurses := true, apart := false, narrowed := true }
def FnRxAckUptoSaid : Prop := fnRxAckUptoRow.holds Try.pinned (OpenSpec.upto fnRxAckSpec)

/-- 'laws.FnRxBusy', WHERE WHAT IT READS IS OF BULK AT MOST 1048576: true; the input reads as it did. -/
def fnRxBusyUptoRow : OpenClaim := { program := "ytkogmnjgpaocbaa", sum := "036e9730fa42633567c633652a093b6932ff778fac7e06452e1ebc28c08dd524", func := "loop.example/linkboy/laws.FnRxBusy", spec := "fnRxBusy", unfollowed := true, recurses := true, apart := false, narrowed := true }
def FnRxBusyUptoSaid : Prop := fnRxBusyUptoRow.holds Try.pinned (OpenSpec.upto fnRxBusySpec)

/-- 'laws.FnRxTwice', WHERE WHAT IT READS IS OF BULK AT MOST 1048576: true; the input reads as it did. -/
def fnRxTwiceUptoRow : OpenClaim := { program := "ytkogmnjgpaocbaa", sum := "036e9730fa42633567c633652a093b6932ff778fac7e06452e1ebc28c08dd524", func := "loop.example/linkboy/laws.FnRxTwice", spec := "fnRxTwice", unfollowed := true, recurses := true, apart := false, narrowed := true }
def FnRxTwiceUptoSaid : Prop := fnRxTwiceUptoRow.holds Try.pinned (OpenSpec.upto fnRxTwiceSpec)

/-- 'laws.FnTxLeft', WHERE WHAT IT READS IS OF BULK AT MOST 1048576: true; the input reads as it did. -/
def fnTxLeftUptoRow : OpenClaim := { program := "ytkogmnjgpaocbaa", sum := "036e9730fa42633567c633652a093b6932ff778fac7e06452e1ebc28c08dd524", func := "loop.example/linkboy/laws.FnTxLeft", spec := "fnTxLeft", apart := false, narrowed := true }
def FnTxLeftUptoSaid : Prop := fnTxLeftUptoRow.holds Try.pinned (OpenSpec.upto fnTxLeftSpec)

/-- 'laws.FnTxOk', WHERE WHAT IT READS IS OF BULK AT MOST 1048576: true; the input reads as it did. -/
def fnTxOkUptoRow : OpenClaim := { program := "ytkogmnjgpaocbaa", sum := "036e9730fa42633567c633652a093b6932ff778fac7e06452e1ebc28c08dd524", func := "loop.example/linkboy/laws.FnTxOk", spec := "fnTxOk", apart := false, narrowed := true }
def FnTxOkUptoSaid : Prop := fnTxOkUptoRow.holds Try.pinned (OpenSpec.upto fnTxOkSpec)

/-- 'laws.FnCrdTxOk', WHERE WHAT IT READS IS OF BULK AT MOST 1048576: true; the input reads as it did. -/
def fnCrdTxOkUptoRow : OpenClaim := { program := "ytkogmnjgpaocbaa", sum := "036e9730fa42633567c633652a093b6932ff778fac7e06452e1ebc28c08dd524", func := "loop.example/linkboy/laws.FnCrdTxOk", spec := "fnCrdTxOk", apart := false, narrowed := true }
def FnCrdTxOkUptoSaid : Prop := fnCrdTxOkUptoRow.holds Try.pinned (OpenSpec.upto fnCrdTxOkSpec)

end Rows
end Go.Proofs.Ytkogmnjgpaocbaa
