/-
  No cell of these rows narrows 'for every input' (looked for: loops, veiled, ifaces, maps, wideKeys, modest, calm, conditions, laid).
  DERIVED. THE GIVEN ROWS OF THIS SEAT. 10 by the template 'for every input the law returns true; each argument reads behind the call as it read before'; 0 by the template 'total and deterministic' (their statements: YtdojkmjamilllaaTotals.lean).
  GIVEN WITH THE SEED: the statements are not yours to turn. If you find one false, say at which input.
  Laid BY PROGRAM, IN A SANDBOX (cutbox-rows.mjs): the forced cells as the released guide's own fill.sh prints them over the translation e8965cd63b6d475b… (all of the seat's roots in one cut). By AI agents, Wed Nov 11 2026. No macro, syntax, notation, axiom, sorry.
-/
import Derived.Test.YtdojkmjamilllaaChecked
import GoSem.Claim
import GoSem.ClaimJoined
import GoSem.ClaimMapViews
import Derived.JoinedTies
import Derived.KernelRfl
namespace Go.Proofs.Ytdojkmjamilllaa
/- THE CELL 'sum', in the pinned program and in every row, IS THE sha256 OF THE DUMP (.gsa) THAT YtdojkmjamilllaaProg.lean LOADS. Nothing in Lean hashes anything: it is a label: what it is worth is what the hold of that sum in a sandbox is worth. -/
noncomputable def Try.pinned : Pinned := { name := "ytdojkmjamilllaa", sum := "e8965cd63b6d475beb0d1a682e92ca6473921be80aec343922bc9d5cc0e6d7c3", checked := Try.checked }
namespace Rows
def none {H : Type} : Left H := { results := [], args := [] }

/-- 'laws.FnTxPut': WHATEVER THE INPUT: true; the input reads as it did. -/
def fnTxPutSpec : ChangeSpec := { name := "fnTxPut", fn := fun _ => fun
  | [d] => { results := [.lit (.bool true)], args := [d] }
  | _ => none }
def fnTxPutRow : OpenClaim := { program := "ytdojkmjamilllaa", sum := "e8965cd63b6d475beb0d1a682e92ca6473921be80aec343922bc9d5cc0e6d7c3", func := "loop.example/linkboy/laws.FnTxPut", spec := "fnTxPut", unfollowed := true, recurses := true, apart := false }
def FnTxPutSaid : Prop := fnTxPutRow.holds Try.pinned (OpenSpec.ofChange fnTxPutSpec)

/-- ITS FALSE NEIGHBOUR: 'it returns false'. Refute it at one input. -/
def fnTxPutWrong : ChangeSpec := { name := "fnTxPut", fn := fun _ => fun
  | [d] => { results := [.lit (.bool false)], args := [d] }
  | _ => none }
def FnTxPutWrongFalsely : Prop := fnTxPutRow.holds Try.pinned (OpenSpec.ofChange fnTxPutWrong)

/-- 'laws.FnTxSend': WHATEVER THE INPUT: true; the input reads as it did. -/
def fnTxSendSpec : ChangeSpec := { name := "fnTxSend", fn := fun _ => fun
  | [d] => { results := [.lit (.bool true)], args := [d] }
  | _ => none }
def fnTxSendRow : OpenClaim := { program := "ytdojkmjamilllaa", sum := "e8965cd63b6d475beb0d1a682e92ca6473921be80aec343922bc9d5cc0e6d7c3", func := "loop.example/linkboy/laws.FnTxSend", spec := "fnTxSend", unfollowed := true, recurses := true, apart := false }
def FnTxSendSaid : Prop := fnTxSendRow.holds Try.pinned (OpenSpec.ofChange fnTxSendSpec)

/-- ITS FALSE NEIGHBOUR: 'it returns false'. Refute it at one input. -/
def fnTxSendWrong : ChangeSpec := { name := "fnTxSend", fn := fun _ => fun
  | [d] => { results := [.lit (.bool false)], args := [d] }
  | _ => none }
def FnTxSendWrongFalsely : Prop := fnTxSendRow.holds Try.pinned (OpenSpec.ofChange fnTxSendWrong)

/-- 'laws.FnTxHear': WHATEVER THE INPUT: true; the input reads as it did. -/
def fnTxHearSpec : ChangeSpec := { name := "fnTxHear", fn := fun _ => fun
  | [d] => { results := [.lit (.bool true)], args := [d] }
  | _ => none }
def fnTxHearRow : OpenClaim := { program := "ytdojkmjamilllaa", sum := "e8965cd63b6d475beb0d1a682e92ca6473921be80aec343922bc9d5cc0e6d7c3", func := "loop.example/linkboy/laws.FnTxHear", spec := "fnTxHear", unfollowed := true, recurses := true, apart := false }
def FnTxHearSaid : Prop := fnTxHearRow.holds Try.pinned (OpenSpec.ofChange fnTxHearSpec)

/-- ITS FALSE NEIGHBOUR: 'it returns false'. Refute it at one input. -/
def fnTxHearWrong : ChangeSpec := { name := "fnTxHear", fn := fun _ => fun
  | [d] => { results := [.lit (.bool false)], args := [d] }
  | _ => none }
def FnTxHearWrongFalsely : Prop := fnTxHearRow.holds Try.pinned (OpenSpec.ofChange fnTxHearWrong)

/-- 'laws.FnTxTick': WHATEVER THE INPUT: true; the input reads as it did. -/
def fnTxTickSpec : ChangeSpec := { name := "fnTxTick", fn := fun _ => fun
  | [d] => { results := [.lit (.bool true)], args := [d] }
  | _ => none }
def fnTxTickRow : OpenClaim := { program := "ytdojkmjamilllaa", sum := "e8965cd63b6d475beb0d1a682e92ca6473921be80aec343922bc9d5cc0e6d7c3", func := "loop.example/linkboy/laws.FnTxTick", spec := "fnTxTick", unfollowed := true, recurses := true, apart := false }
def FnTxTickSaid : Prop := fnTxTickRow.holds Try.pinned (OpenSpec.ofChange fnTxTickSpec)

/-- ITS FALSE NEIGHBOUR: 'it returns false'. Refute it at one input. -/
def fnTxTickWrong : ChangeSpec := { name := "fnTxTick", fn := fun _ => fun
  | [d] => { results := [.lit (.bool false)], args := [d] }
  | _ => none }
def FnTxTickWrongFalsely : Prop := fnTxTickRow.holds Try.pinned (OpenSpec.ofChange fnTxTickWrong)

/-- 'laws.FnTxFinal': WHATEVER THE INPUT: true; the input reads as it did. -/
def fnTxFinalSpec : ChangeSpec := { name := "fnTxFinal", fn := fun _ => fun
  | [d] => { results := [.lit (.bool true)], args := [d] }
  | _ => none }
def fnTxFinalRow : OpenClaim := { program := "ytdojkmjamilllaa", sum := "e8965cd63b6d475beb0d1a682e92ca6473921be80aec343922bc9d5cc0e6d7c3", func := "loop.example/linkboy/laws.FnTxFinal", spec := "fnTxFinal", unfollowed := true, recurses := true, apart := false }
def FnTxFinalSaid : Prop := fnTxFinalRow.holds Try.pinned (OpenSpec.ofChange fnTxFinalSpec)

/-- ITS FALSE NEIGHBOUR: 'it returns false'. Refute it at one input. -/
def fnTxFinalWrong : ChangeSpec := { name := "fnTxFinal", fn := fun _ => fun
  | [d] => { results := [.lit (.bool false)], args := [d] }
  | _ => none }
def FnTxFinalWrongFalsely : Prop := fnTxFinalRow.holds Try.pinned (OpenSpec.ofChange fnTxFinalWrong)

/-- 'laws.FnTxOrder': WHATEVER THE INPUT: true; the input reads as it did. -/
def fnTxOrderSpec : ChangeSpec := { name := "fnTxOrder", fn := fun _ => fun
  | [d] => { results := [.lit (.bool true)], args := [d] }
  | _ => none }
def fnTxOrderRow : OpenClaim := { program := "ytdojkmjamilllaa", sum := "e8965cd63b6d475beb0d1a682e92ca6473921be80aec343922bc9d5cc0e6d7c3", func := "loop.example/linkboy/laws.FnTxOrder", spec := "fnTxOrder", unfollowed := true, recurses := true, apart := false }
def FnTxOrderSaid : Prop := fnTxOrderRow.holds Try.pinned (OpenSpec.ofChange fnTxOrderSpec)

/-- ITS FALSE NEIGHBOUR: 'it returns false'. Refute it at one input. -/
def fnTxOrderWrong : ChangeSpec := { name := "fnTxOrder", fn := fun _ => fun
  | [d] => { results := [.lit (.bool false)], args := [d] }
  | _ => none }
def FnTxOrderWrongFalsely : Prop := fnTxOrderRow.holds Try.pinned (OpenSpec.ofChange fnTxOrderWrong)

/-- 'laws.FnTxAgain': WHATEVER THE INPUT: true; the input reads as it did. -/
def fnTxAgainSpec : ChangeSpec := { name := "fnTxAgain", fn := fun _ => fun
  | [d] => { results := [.lit (.bool true)], args := [d] }
  | _ => none }
def fnTxAgainRow : OpenClaim := { program := "ytdojkmjamilllaa", sum := "e8965cd63b6d475beb0d1a682e92ca6473921be80aec343922bc9d5cc0e6d7c3", func := "loop.example/linkboy/laws.FnTxAgain", spec := "fnTxAgain", unfollowed := true, recurses := true, apart := false }
def FnTxAgainSaid : Prop := fnTxAgainRow.holds Try.pinned (OpenSpec.ofChange fnTxAgainSpec)

/-- ITS FALSE NEIGHBOUR: 'it returns false'. Refute it at one input. -/
def fnTxAgainWrong : ChangeSpec := { name := "fnTxAgain", fn := fun _ => fun
  | [d] => { results := [.lit (.bool false)], args := [d] }
  | _ => none }
def FnTxAgainWrongFalsely : Prop := fnTxAgainRow.holds Try.pinned (OpenSpec.ofChange fnTxAgainWrong)

/-- 'laws.FnTxAll': WHATEVER THE INPUT: true; the input reads as it did. -/
def fnTxAllSpec : ChangeSpec := { name := "fnTxAll", fn := fun _ => fun
  | [d] => { results := [.lit (.bool true)], args := [d] }
  | _ => none }
def fnTxAllRow : OpenClaim := { program := "ytdojkmjamilllaa", sum := "e8965cd63b6d475beb0d1a682e92ca6473921be80aec343922bc9d5cc0e6d7c3", func := "loop.example/linkboy/laws.FnTxAll", spec := "fnTxAll", unfollowed := true, recurses := true, apart := false }
def FnTxAllSaid : Prop := fnTxAllRow.holds Try.pinned (OpenSpec.ofChange fnTxAllSpec)

/-- ITS FALSE NEIGHBOUR: 'it returns false'. Refute it at one input. -/
def fnTxAllWrong : ChangeSpec := { name := "fnTxAll", fn := fun _ => fun
  | [d] => { results := [.lit (.bool false)], args := [d] }
  | _ => none }
def FnTxAllWrongFalsely : Prop := fnTxAllRow.holds Try.pinned (OpenSpec.ofChange fnTxAllWrong)

/-- 'laws.FnTxWrong': WHATEVER THE INPUT: true; the input reads as it did. -/
def fnTxWrongSpec : ChangeSpec := { name := "fnTxWrong", fn := fun _ => fun
  | [d] => { results := [.lit (.bool true)], args := [d] }
  | _ => none }
def fnTxWrongRow : OpenClaim := { program := "ytdojkmjamilllaa", sum := "e8965cd63b6d475beb0d1a682e92ca6473921be80aec343922bc9d5cc0e6d7c3", func := "loop.example/linkboy/laws.FnTxWrong", spec := "fnTxWrong", unfollowed := true, recurses := true, apart := false }
def FnTxWrongSaid : Prop := fnTxWrongRow.holds Try.pinned (OpenSpec.ofChange fnTxWrongSpec)

/-- ITS FALSE NEIGHBOUR: 'it returns false'. Refute it at one input. -/
def fnTxWrongWrong : ChangeSpec := { name := "fnTxWrong", fn := fun _ => fun
  | [d] => { results := [.lit (.bool false)], args := [d] }
  | _ => none }
def FnTxWrongWrongFalsely : Prop := fnTxWrongRow.holds Try.pinned (OpenSpec.ofChange fnTxWrongWrong)

/-- 'laws.FnCrdPut': WHATEVER THE INPUT: true; the input reads as it did. -/
def fnCrdPutSpec : ChangeSpec := { name := "fnCrdPut", fn := fun _ => fun
  | [d] => { results := [.lit (.bool true)], args := [d] }
  | _ => none }
def fnCrdPutRow : OpenClaim := { program := "ytdojkmjamilllaa", sum := "e8965cd63b6d475beb0d1a682e92ca6473921be80aec343922bc9d5cc0e6d7c3", func := "loop.example/linkboy/laws.FnCrdPut", spec := "fnCrdPut", unfollowed := true, recurses := true, apart := false }
def FnCrdPutSaid : Prop := fnCrdPutRow.holds Try.pinned (OpenSpec.ofChange fnCrdPutSpec)

/-- ITS FALSE NEIGHBOUR: 'it returns false'. Refute it at one input. -/
def fnCrdPutWrong : ChangeSpec := { name := "fnCrdPut", fn := fun _ => fun
  | [d] => { results := [.lit (.bool false)], args := [d] }
  | _ => none }
def FnCrdPutWrongFalsely : Prop := fnCrdPutRow.holds Try.pinned (OpenSpec.ofChange fnCrdPutWrong)

/- THE SECOND FORM. 'bulk': how many values and letters a reading holds, each counted each time it is reached (what is shared counts as often as it is met; a slice's spare places count too). A statement '..UptoSaid' is the law's where the arguments, and the package variables that the reading takes, are together of bulk at most 1048576: NARROWER than '..Said'. Prove '..Said' where nothing that the law and all that it calls make is longer than what came in: it says more and counts as full. Else prove '..UptoSaid'. A law counts once. -/
mutual
def uptoBulk {H : Type} : DataW H → Nat
  | .lit (.string bytes) => bytes.length + 1
  | .lit _ => 1
  | .nil => 1
  | .ptr d => uptoBulk d + 1
  | .slice elems spare => uptoBulkAll elems + uptoBulkAll spare + 1
  | .agg parts => uptoBulkAll parts + 1
  | .iface _ d => uptoBulk d + 1
  | .map entries => uptoBulkEntries entries + 1
  | .held _ => 1
def uptoBulkAll {H : Type} : List (DataW H) → Nat
  | [] => 0
  | d :: r => uptoBulk d + uptoBulkAll r
def uptoBulkEntries {H : Type} : List (Lit × DataW H) → Nat
  | [] => 0
  | x :: r => uptoBulkEntry x + uptoBulkEntries r
def uptoBulkEntry {H : Type} : Lit × DataW H → Nat
  | (.string bytes, d) => bytes.length + uptoBulk d + 1
  | (_, d) => uptoBulk d + 1
 end
def uptoSmall : (H : Type) → List (DataW H) → Bool := fun _ ds => decide (uptoBulkAll ds ≤ 1048576)
def OpenSpec.upto (s : _root_.Go.ChangeSpec) : _root_.Go.OpenSpec := { _root_.Go.OpenSpec.ofChange s with cond := some uptoSmall }

/-- 'laws.FnTxPut', WHERE WHAT IT READS IS OF BULK AT MOST 1048576: true; the input reads as it did. -/
def fnTxPutUptoRow : OpenClaim := { program := "ytdojkmjamilllaa", sum := "e8965cd63b6d475beb0d1a682e92ca6473921be80aec343922bc9d5cc0e6d7c3", func := "loop.example/linkboy/laws.FnTxPut", spec := "fnTxPut", unfollowed := true, recurses := true, apart := false, narrowed := true }
def FnTxPutUptoSaid : Prop := fnTxPutUptoRow.holds Try.pinned (OpenSpec.upto fnTxPutSpec)

/-- 'laws.FnTxSend', WHERE WHAT IT READS IS OF BULK AT MOST 1048576: true; the input reads as it did. -/
def fnTxSendUptoRow : OpenClaim := { program := "ytdojkmjamilllaa", sum := "e8965cd63b6d475beb0d1a682e92ca6473921be80aec343922bc9d5cc0e6d7c3", func := "loop.example/linkboy/laws.FnTxSend", spec := "fnTxSend", unfollowed := true, recurses := true, apart := false, narrowed := true }
def FnTxSendUptoSaid : Prop := fnTxSendUptoRow.holds Try.pinned (OpenSpec.upto fnTxSendSpec)

/-- 'laws.FnTxHear', WHERE WHAT IT READS IS OF BULK AT MOST 1048576: true; the input reads as it did. -/
def fnTxHearUptoRow : OpenClaim := { program := "ytdojkmjamilllaa", sum := "e8965cd63b6d475beb0d1a682e92ca6473921be80aec343922bc9d5cc0e6d7c3", func := "loop.example/linkboy/laws.FnTxHear", spec := "fnTxHear", unfollowed := true, recurses := true, apart := false, narrowed := true }
def FnTxHearUptoSaid : Prop := fnTxHearUptoRow.holds Try.pinned (OpenSpec.upto fnTxHearSpec)

/-- 'laws.FnTxTick', WHERE WHAT IT READS IS OF BULK AT MOST 1048576: true; the input reads as it did. -/
def fnTxTickUptoRow : OpenClaim := { program := "ytdojkmjamilllaa", sum := "e8965cd63b6d475beb0d1a682e92ca6473921be80aec343922bc9d5cc0e6d7c3", func := "loop.example/linkboy/laws.FnTxTick", spec := "fnTxTick", unfollowed := true, recurses := true, apart := false, narrowed := true }
def FnTxTickUptoSaid : Prop := fnTxTickUptoRow.holds Try.pinned (OpenSpec.upto fnTxTickSpec)

/-- 'laws.FnTxFinal', WHERE WHAT IT READS IS OF BULK AT MOST 1048576: true; the input reads as it did. -/
def fnTxFinalUptoRow : OpenClaim := { program := "ytdojkmjamilllaa", sum := "e8965cd63b6d475beb0d1a682e92ca6473921be80aec343922bc9d5cc0e6d7c3", func := "loop.example/linkboy/laws.FnTxFinal", spec := "fnTxFinal", unfollowed := true, recurses := true, apart := false, narrowed := true }
def FnTxFinalUptoSaid : Prop := fnTxFinalUptoRow.holds Try.pinned (OpenSpec.upto fnTxFinalSpec)

/-- 'laws.FnTxOrder', WHERE WHAT IT READS IS OF BULK AT MOST 1048576: true; the input reads as it did. -/
def fnTxOrderUptoRow : OpenClaim := { program := "ytdojkmjamilllaa", sum := "e8965cd63b6d475beb0d1a682e92ca6473921be80aec343922bc9d5cc0e6d7c3", func := "loop.example/linkboy/laws.FnTxOrder", spec := "fnTxOrder", unfollowed := true, recurses := true, apart := false, narrowed := true }
def FnTxOrderUptoSaid : Prop := fnTxOrderUptoRow.holds Try.pinned (OpenSpec.upto fnTxOrderSpec)

/-- 'laws.FnTxAgain', WHERE WHAT IT READS IS OF BULK AT MOST 1048576: true; the input reads as it did. -/
def fnTxAgainUptoRow : OpenClaim := { program := "ytdojkmjamilllaa", sum := "e8965cd63b6d475beb0d1a682e92ca6473921be80aec343922bc9d5cc0e6d7c3", func := "loop.example/linkboy/laws.FnTxAgain", spec := "fnTxAgain", unfollowed := true, recurses := true, apart := false, narrowed := true }
def FnTxAgainUptoSaid : Prop := fnTxAgainUptoRow.holds Try.pinned (OpenSpec.upto fnTxAgainSpec)

/-- 'laws.FnTxAll', WHERE WHAT IT READS IS OF BULK AT MOST 1048576: true; the input reads as it did. -/
def fnTxAllUptoRow : OpenClaim := { program := "ytdojkmjamilllaa", sum := "e8965cd63b6d475beb0d1a682e92ca6473921be80aec343922bc9d5cc0e6d7c3", func := "loop.example/linkboy/laws.FnTxAll", spec := "fnTxAll", unfollowed := true, recurses := true, apart := false, narrowed := true }
def FnTxAllUptoSaid : Prop := fnTxAllUptoRow.holds Try.pinned (OpenSpec.upto fnTxAllSpec)

/-- 'laws.FnTxWrong', WHERE WHAT IT READS IS OF BULK AT MOST 1048576: true; the input reads as it did. -/
def fnTxWrongUptoRow : OpenClaim := { program := "ytdojkmjamilllaa", sum := "e8965cd63b6d475beb0d1a682e92ca6473921be80aec343922bc9d5cc0e6d7c3", func := "loop.example/linkboy/laws.FnTxWrong", spec := "fnTxWrong", unfollowed := true, recurses := true, apart := false, narrowed := true }
def FnTxWrongUptoSaid : Prop := fnTxWrongUptoRow.holds Try.pinned (OpenSpec.upto fnTxWrongSpec)

/-- 'laws.FnCrdPut', WHERE WHAT IT READS IS OF BULK AT MOST 1048576: true; the input reads as it did. -/
def fnCrdPutUptoRow : OpenClaim := { program := "ytdojkmjamilllaa", sum := "e8965cd63b6d475beb0d1a682e92ca6473921be80aec343922bc9d5cc0e6d7c3", func := "loop.example/linkboy/laws.FnCrdPut", spec := "fnCrdPut", unfollowed := true, recurses := true, apart := false, narrowed := true }
def FnCrdPutUptoSaid : Prop := fnCrdPutUptoRow.holds Try.pinned (OpenSpec.upto fnCrdPutSpec)

end Rows
end Go.Proofs.Ytdojkmjamilllaa
