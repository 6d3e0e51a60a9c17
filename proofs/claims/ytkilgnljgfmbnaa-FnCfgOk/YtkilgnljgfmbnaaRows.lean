/-
  No cell of these rows narrows 'for every input' (looked for: loops, veiled, ifaces, maps, wideKeys, modest, calm, conditions, laid).
  DERIVED. THE GIVEN ROWS OF THIS SEAT. 6 by the template 'for every input the law returns true; each argument reads behind the call as it read before'; 0 by the template 'total and deterministic' (their statements: YtkilgnljgfmbnaaTotals.lean).
  GIVEN WITH THE SEED: the statements are not yours to turn. If you find one false, say at which input.
  Laid BY PROGRAM, IN A SANDBOX (cutbox-rows.mjs): the forced cells as the released guide's own fill.sh prints them over the translation ef2a509b19d221ab… (all of the seat's roots in one cut). By AI agents, Wed Nov 11 2026. No macro, syntax, notation, axiom, sorry.
-/
import Derived.Test.YtkilgnljgfmbnaaChecked
import GoSem.Claim
import GoSem.ClaimJoined
import GoSem.ClaimMapViews
import Derived.JoinedTies
import Derived.KernelRfl
namespace Go.Proofs.Ytkilgnljgfmbnaa
/- THE CELL 'sum', in the pinned program and in every row, IS THE sha256 OF THE DUMP (.gsa) THAT YtkilgnljgfmbnaaProg.lean LOADS. Nothing in Lean hashes anything: it is a label: what it is worth is what the hold of that sum in a sandbox is worth. -/
noncomputable def Try.pinned : Pinned := { name := "ytkilgnljgfmbnaa", sum := "ef2a509b19d221abf417952b6223b9d1a4c91337222cadd1c4ad5cf2437b8d10", checked := Try.checked }
namespace Rows
def none {H : Type} : Left H := { results := [], args := [] }

/-- 'laws.FnCfgOk': WHATEVER THE INPUT: true; the input reads as it did. -/
def fnCfgOkSpec : ChangeSpec := { name := "fnCfgOk", fn := fun _ => fun
  | [d] => { results := [.lit (.bool true)], args := [d] }
  | _ => none }
def fnCfgOkRow : OpenClaim := { program := "ytkilgnljgfmbnaa", sum := "ef2a509b19d221abf417952b6223b9d1a4c91337222cadd1c4ad5cf2437b8d10", func := "loop.example/linkboy/laws.FnCfgOk", spec := "fnCfgOk", apart := false }
def FnCfgOkSaid : Prop := fnCfgOkRow.holds Try.pinned (OpenSpec.ofChange fnCfgOkSpec)

/-- ITS FALSE NEIGHBOUR: 'it returns false'. Refute it at one input. -/
def fnCfgOkWrong : ChangeSpec := { name := "fnCfgOk", fn := fun _ => fun
  | [d] => { results := [.lit (.bool false)], args := [d] }
  | _ => none }
def FnCfgOkWrongFalsely : Prop := fnCfgOkRow.holds Try.pinned (OpenSpec.ofChange fnCfgOkWrong)

/-- 'laws.FnCfgMeet': WHATEVER THE INPUT: true; the input reads as it did. -/
def fnCfgMeetSpec : ChangeSpec := { name := "fnCfgMeet", fn := fun _ => fun
  | [d] => { results := [.lit (.bool true)], args := [d] }
  | _ => none }
def fnCfgMeetRow : OpenClaim := { program := "ytkilgnljgfmbnaa", sum := "ef2a509b19d221abf417952b6223b9d1a4c91337222cadd1c4ad5cf2437b8d10", func := "loop.example/linkboy/laws.FnCfgMeet", spec := "fnCfgMeet", apart := false }
def FnCfgMeetSaid : Prop := fnCfgMeetRow.holds Try.pinned (OpenSpec.ofChange fnCfgMeetSpec)

/-- ITS FALSE NEIGHBOUR: 'it returns false'. Refute it at one input. -/
def fnCfgMeetWrong : ChangeSpec := { name := "fnCfgMeet", fn := fun _ => fun
  | [d] => { results := [.lit (.bool false)], args := [d] }
  | _ => none }
def FnCfgMeetWrongFalsely : Prop := fnCfgMeetRow.holds Try.pinned (OpenSpec.ofChange fnCfgMeetWrong)

/-- 'laws.FnCfgThree': WHATEVER THE INPUT: true; the input reads as it did. -/
def fnCfgThreeSpec : ChangeSpec := { name := "fnCfgThree", fn := fun _ => fun
  | [d1, d2] => { results := [.lit (.bool true)], args := [d1, d2] }
  | _ => none }
def fnCfgThreeRow : OpenClaim := { program := "ytkilgnljgfmbnaa", sum := "ef2a509b19d221abf417952b6223b9d1a4c91337222cadd1c4ad5cf2437b8d10", func := "loop.example/linkboy/laws.FnCfgThree", spec := "fnCfgThree", apart := false }
def FnCfgThreeSaid : Prop := fnCfgThreeRow.holds Try.pinned (OpenSpec.ofChange fnCfgThreeSpec)

/-- ITS FALSE NEIGHBOUR: 'it returns false'. Refute it at one input. -/
def fnCfgThreeWrong : ChangeSpec := { name := "fnCfgThree", fn := fun _ => fun
  | [d1, d2] => { results := [.lit (.bool false)], args := [d1, d2] }
  | _ => none }
def FnCfgThreeWrongFalsely : Prop := fnCfgThreeRow.holds Try.pinned (OpenSpec.ofChange fnCfgThreeWrong)

/-- 'laws.FnNegOk': WHATEVER THE INPUT: true; the input reads as it did. -/
def fnNegOkSpec : ChangeSpec := { name := "fnNegOk", fn := fun _ => fun
  | [d] => { results := [.lit (.bool true)], args := [d] }
  | _ => none }
def fnNegOkRow : OpenClaim := { program := "ytkilgnljgfmbnaa", sum := "ef2a509b19d221abf417952b6223b9d1a4c91337222cadd1c4ad5cf2437b8d10", func := "loop.example/linkboy/laws.FnNegOk", spec := "fnNegOk", apart := false }
def FnNegOkSaid : Prop := fnNegOkRow.holds Try.pinned (OpenSpec.ofChange fnNegOkSpec)

/-- ITS FALSE NEIGHBOUR: 'it returns false'. Refute it at one input. -/
def fnNegOkWrong : ChangeSpec := { name := "fnNegOk", fn := fun _ => fun
  | [d] => { results := [.lit (.bool false)], args := [d] }
  | _ => none }
def FnNegOkWrongFalsely : Prop := fnNegOkRow.holds Try.pinned (OpenSpec.ofChange fnNegOkWrong)

/-- 'laws.FnNegSay': WHATEVER THE INPUT: true; the input reads as it did. -/
def fnNegSaySpec : ChangeSpec := { name := "fnNegSay", fn := fun _ => fun
  | [d1, d2] => { results := [.lit (.bool true)], args := [d1, d2] }
  | _ => none }
def fnNegSayRow : OpenClaim := { program := "ytkilgnljgfmbnaa", sum := "ef2a509b19d221abf417952b6223b9d1a4c91337222cadd1c4ad5cf2437b8d10", func := "loop.example/linkboy/laws.FnNegSay", spec := "fnNegSay", apart := false }
def FnNegSaySaid : Prop := fnNegSayRow.holds Try.pinned (OpenSpec.ofChange fnNegSaySpec)

/-- ITS FALSE NEIGHBOUR: 'it returns false'. Refute it at one input. -/
def fnNegSayWrong : ChangeSpec := { name := "fnNegSay", fn := fun _ => fun
  | [d1, d2] => { results := [.lit (.bool false)], args := [d1, d2] }
  | _ => none }
def FnNegSayWrongFalsely : Prop := fnNegSayRow.holds Try.pinned (OpenSpec.ofChange fnNegSayWrong)

/-- 'laws.FnNegHear': WHATEVER THE INPUT: true; the input reads as it did. -/
def fnNegHearSpec : ChangeSpec := { name := "fnNegHear", fn := fun _ => fun
  | [d] => { results := [.lit (.bool true)], args := [d] }
  | _ => none }
def fnNegHearRow : OpenClaim := { program := "ytkilgnljgfmbnaa", sum := "ef2a509b19d221abf417952b6223b9d1a4c91337222cadd1c4ad5cf2437b8d10", func := "loop.example/linkboy/laws.FnNegHear", spec := "fnNegHear", apart := false }
def FnNegHearSaid : Prop := fnNegHearRow.holds Try.pinned (OpenSpec.ofChange fnNegHearSpec)

/-- ITS FALSE NEIGHBOUR: 'it returns false'. Refute it at one input. -/
def fnNegHearWrong : ChangeSpec := { name := "fnNegHear", fn := fun _ => fun
  | [d] => { results := [.lit (.bool false)], args := [d] }
  | _ => none }
def FnNegHearWrongFalsely : Prop := fnNegHearRow.holds Try.pinned (OpenSpec.ofChange fnNegHearWrong)

/- THE SECOND FORM. 'bulk': how many values and letters a reading holds, each counted each time it is reached (what is shared counts as often as it is met; a slice's spare places count too). A statement '..UptoSaid' is the law's where the arguments, and the package variables that the reading takes, are together of bulk at most 1048576: NARROWER than '..Said'. Prove '..Said' where nothing that the law and all that it calls make is longer than what came in: it says more and counts as full. Else prove '..UptoSaid'. A law counts once. -/
mutual
def uptoBulk {H : Type} : DataW H → Nat
  | .lit (.string bytes) => bytes.length + 1
  | .lit _ => 1
  | .nil => 1
  | .ptr d => uptoBulk d + 1
  | .slice elems spare => uptoBulkAll elems + uptoBulkAll spare + 1
  | .agg parts => uptoBulkAll parts + 1
  | .iface _ d => uptoBulk d + 1
  | .map entries => uptoBulkEntries entries + 1
  | .held _ => 1
def uptoBulkAll {H : Type} : List (DataW H) → Nat
  | [] => 0
  | d :: r => uptoBulk d + uptoBulkAll r
def uptoBulkEntries {H : Type} : List (Lit × DataW H) → Nat
  | [] => 0
  | x :: r => uptoBulkEntry x + uptoBulkEntries r
def uptoBulkEntry {H : Type} : Lit × DataW H → Nat
  | (.string bytes, d) => bytes.length + uptoBulk d + 1
  | (_, d) => uptoBulk d + 1
 end
def uptoSmall : (H : Type) → List (DataW H) → Bool := fun _ ds => decide (uptoBulkAll ds ≤ 1048576)
def OpenSpec.upto (s : _root_.Go.ChangeSpec) : _root_.Go.OpenSpec := { _root_.Go.OpenSpec.ofChange s with cond := some uptoSmall }

/-- 'laws.FnCfgOk', WHERE WHAT IT READS IS OF BULK AT MOST 1048576: true; the input reads as it did. -/
def fnCfgOkUptoRow : OpenClaim := { program := "ytkilgnljgfmbnaa", sum := "ef2a509b19d221abf417952b6223b9d1a4c91337222cadd1c4ad5cf2437b8d10", func := "loop.example/linkboy/laws.FnCfgOk", spec := "fnCfgOk", apart := false, narrowed := true }
def FnCfgOkUptoSaid : Prop := fnCfgOkUptoRow.holds Try.pinned (OpenSpec.upto fnCfgOkSpec)

/-- 'laws.FnCfgMeet', WHERE WHAT IT READS IS OF BULK AT MOST 1048576: true; the input reads as it did. -/
def fnCfgMeetUptoRow : OpenClaim := { program := "ytkilgnljgfmbnaa", sum := "ef2a509b19d221abf417952b6223b9d1a4c91337222cadd1c4ad5cf2437b8d10", func := "loop.example/linkboy/laws.FnCfgMeet", spec := "fnCfgMeet", apart := false, narrowed := true }
def FnCfgMeetUptoSaid : Prop := fnCfgMeetUptoRow.holds Try.pinned (OpenSpec.upto fnCfgMeetSpec)

/-- 'laws.FnCfgThree', WHERE WHAT IT READS IS OF BULK AT MOST 1048576: true; the input reads as it did. -/
def fnCfgThreeUptoRow : OpenClaim := { program := "ytkilgnljgfmbnaa", sum := "ef2a509b19d221abf417952b6223b9d1a4c91337222cadd1c4ad5cf2437b8d10", func := "loop.example/linkboy/laws.FnCfgThree", spec := "fnCfgThree", apart := false, narrowed := true }
def FnCfgThreeUptoSaid : Prop := fnCfgThreeUptoRow.holds Try.pinned (OpenSpec.upto fnCfgThreeSpec)

/-- 'laws.FnNegOk', WHERE WHAT IT READS IS OF BULK AT MOST 1048576: true; the input reads as it did. -/
def fnNegOkUptoRow : OpenClaim := { program := "ytkilgnljgfmbnaa", sum := "ef2a509b19d221abf417952b6223b9d1a4c91337222cadd1c4ad5cf2437b8d10", func := "loop.example/linkboy/laws.FnNegOk", spec := "fnNegOk", apart := false, narrowed := true }
def FnNegOkUptoSaid : Prop := fnNegOkUptoRow.holds Try.pinned (OpenSpec.upto fnNegOkSpec)

/-- 'laws.FnNegSay', WHERE WHAT IT READS IS OF BULK AT MOST 1048576: true; the input reads as it did. -/
def fnNegSayUptoRow : OpenClaim := { program := "ytkilgnljgfmbnaa", sum := "ef2a509b19d221abf417952b6223b9d1a4c91337222cadd1c4ad5cf2437b8d10", func := "loop.example/linkboy/laws.FnNegSay", spec := "fnNegSay", apart := false, narrowed := true }
def FnNegSayUptoSaid : Prop := fnNegSayUptoRow.holds Try.pinned (OpenSpec.upto fnNegSaySpec)

/-- 'laws.FnNegHear', WHERE WHAT IT READS IS OF BULK AT MOST 1048576: true; the input reads as it did. -/
def fnNegHearUptoRow : OpenClaim := { program := "ytkilgnljgfmbnaa", sum := "ef2a509b19d221abf417952b6223b9d1a4c91337222cadd1c4ad5cf2437b8d10", func := "loop.example/linkboy/laws.FnNegHear", spec := "fnNegHear", apart := false, narrowed := true }
def FnNegHearUptoSaid : Prop := fnNegHearUptoRow.holds Try.pinned (OpenSpec.upto fnNegHearSpec)

end Rows
end Go.Proofs.Ytkilgnljgfmbnaa
