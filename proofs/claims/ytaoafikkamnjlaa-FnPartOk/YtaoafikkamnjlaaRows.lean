/-
  No cell of these rows narrows 'for every input' (looked for: loops, veiled, ifaces, maps, wideKeys, modest, calm, conditions, laid).
  DERIVED. THE GIVEN ROWS OF THIS SEAT. 11 by the template 'for every input the law returns true; each argument reads behind the call as it read before'; 0 by the template 'total and deterministic' (their statements: YtaoafikkamnjlaaTotals.lean).
  GIVEN WITH THE SEED: the statements are not yours to turn. If you find one false, say at which input.
  Laid BY PROGRAM, IN A SANDBOX (cutbox-rows.mjs): the forced cells as the released guide's own fill.sh prints them over the translation 501b8c5479d12250… (all of the seat's roots in one cut). By AI agents, Wed Nov 11 2026. No macro, syntax, notation, axiom, sorry.
-/
import Derived.Test.YtaoafikkamnjlaaChecked
import GoSem.Claim
import GoSem.ClaimJoined
import GoSem.ClaimMapViews
import Derived.JoinedTies
import Derived.KernelRfl
namespace Go.Proofs.Ytaoafikkamnjlaa
/- THE CELL 'sum', in the pinned program and in every row, IS THE sha256 OF THE DUMP (.gsa) THAT YtaoafikkamnjlaaProg.lean LOADS. Nothing in Lean hashes anything: it is a label: what it is worth is what the hold of that sum in a sandbox is worth. -/
noncomputable def Try.pinned : Pinned := { name := "ytaoafikkamnjlaa", sum := "501b8c5479d12250ca02b4550cd3a4142ff5618008073cb1207c6af90823f314", checked := Try.checked }
namespace Rows
def none {H : Type} : Left H := { results := [], args := [] }

/-- 'laws.FnNegHear': WHATEVER THE INPUT: true; the input reads as it did. -/
def fnNegHearSpec : ChangeSpec := { name := "fnNegHear", fn := fun _ => fun
  | [d] => { results := [.lit (.bool true)], args := [d] }
  | _ => none }
def fnNegHearRow : OpenClaim := { program := "ytaoafikkamnjlaa", sum := "501b8c5479d12250ca02b4550cd3a4142ff5618008073cb1207c6af90823f314", func := "loop.example/linkboy/laws.FnNegHear", spec := "fnNegHear", apart := false }
def FnNegHearSaid : Prop := fnNegHearRow.holds Try.pinned (OpenSpec.ofChange fnNegHearSpec)

/-- ITS FALSE NEIGHBOUR: 'it returns false'. Refute it at one input. -/
def fnNegHearWrong : ChangeSpec := { name := "fnNegHear", fn := fun _ => fun
  | [d] => { results := [.lit (.bool false)], args := [d] }
  | _ => none }
def FnNegHearWrongFalsely : Prop := fnNegHearRow.holds Try.pinned (OpenSpec.ofChange fnNegHearWrong)

/-- 'laws.FnNegSame': WHATEVER THE INPUT: true; the input reads as it did. -/
def fnNegSameSpec : ChangeSpec := { name := "fnNegSame", fn := fun _ => fun
  | [d] => { results := [.lit (.bool true)], args := [d] }
  | _ => none }
def fnNegSameRow : OpenClaim := { program := "ytaoafikkamnjlaa", sum := "501b8c5479d12250ca02b4550cd3a4142ff5618008073cb1207c6af90823f314", func := "loop.example/linkboy/laws.FnNegSame", spec := "fnNegSame", apart := false }
def FnNegSameSaid : Prop := fnNegSameRow.holds Try.pinned (OpenSpec.ofChange fnNegSameSpec)

/-- ITS FALSE NEIGHBOUR: 'it returns false'. Refute it at one input. -/
def fnNegSameWrong : ChangeSpec := { name := "fnNegSame", fn := fun _ => fun
  | [d] => { results := [.lit (.bool false)], args := [d] }
  | _ => none }
def FnNegSameWrongFalsely : Prop := fnNegSameRow.holds Try.pinned (OpenSpec.ofChange fnNegSameWrong)

/-- 'laws.FnNegComes': WHATEVER THE INPUT: true; the input reads as it did. -/
def fnNegComesSpec : ChangeSpec := { name := "fnNegComes", fn := fun _ => fun
  | [d] => { results := [.lit (.bool true)], args := [d] }
  | _ => none }
def fnNegComesRow : OpenClaim := { program := "ytaoafikkamnjlaa", sum := "501b8c5479d12250ca02b4550cd3a4142ff5618008073cb1207c6af90823f314", func := "loop.example/linkboy/laws.FnNegComes", spec := "fnNegComes", apart := false }
def FnNegComesSaid : Prop := fnNegComesRow.holds Try.pinned (OpenSpec.ofChange fnNegComesSpec)

/-- ITS FALSE NEIGHBOUR: 'it returns false'. Refute it at one input. -/
def fnNegComesWrong : ChangeSpec := { name := "fnNegComes", fn := fun _ => fun
  | [d] => { results := [.lit (.bool false)], args := [d] }
  | _ => none }
def FnNegComesWrongFalsely : Prop := fnNegComesRow.holds Try.pinned (OpenSpec.ofChange fnNegComesWrong)

/-- 'laws.FnSegCut': WHATEVER THE INPUT: true; the input reads as it did. -/
def fnSegCutSpec : ChangeSpec := { name := "fnSegCut", fn := fun _ => fun
  | [d] => { results := [.lit (.bool true)], args := [d] }
  | _ => none }
def fnSegCutRow : OpenClaim := { program := "ytaoafikkamnjlaa", sum := "501b8c5479d12250ca02b4550cd3a4142ff5618008073cb1207c6af90823f314", func := "loop.example/linkboy/laws.FnSegCut", spec := "fnSegCut", unfollowed := true, recurses := true, apart := false }
def FnSegCutSaid : Prop := fnSegCutRow.holds Try.pinned (OpenSpec.ofChange fnSegCutSpec)

/-- ITS FALSE NEIGHBOUR: 'it returns false'. Refute it at one input. -/
def fnSegCutWrong : ChangeSpec := { name := "fnSegCut", fn := fun _ => fun
  | [d] => { results := [.lit (.bool false)], args := [d] }
  | _ => none }
def FnSegCutWrongFalsely : Prop := fnSegCutRow.holds Try.pinned (OpenSpec.ofChange fnSegCutWrong)

/-- 'laws.FnSegPut': WHATEVER THE INPUT: true; the input reads as it did. -/
def fnSegPutSpec : ChangeSpec := { name := "fnSegPut", fn := fun _ => fun
  | [d] => { results := [.lit (.bool true)], args := [d] }
  | _ => none }
def fnSegPutRow : OpenClaim := { program := "ytaoafikkamnjlaa", sum := "501b8c5479d12250ca02b4550cd3a4142ff5618008073cb1207c6af90823f314", func := "loop.example/linkboy/laws.FnSegPut", spec := "fnSegPut", unfollowed := true, recurses := true, apart := false }
def FnSegPutSaid : Prop := fnSegPutRow.holds Try.pinned (OpenSpec.ofChange fnSegPutSpec)

/-- ITS FALSE NEIGHBOUR: 'it returns false'. Refute it at one input. -/
def fnSegPutWrong : ChangeSpec := { name := "fnSegPut", fn := fun _ => fun
  | [d] => { results := [.lit (.bool false)], args := [d] }
  | _ => none }
def FnSegPutWrongFalsely : Prop := fnSegPutRow.holds Try.pinned (OpenSpec.ofChange fnSegPutWrong)

/-- 'laws.FnSegCount': WHATEVER THE INPUT: true; the input reads as it did. -/
def fnSegCountSpec : ChangeSpec := { name := "fnSegCount", fn := fun _ => fun
  | [d] => { results := [.lit (.bool true)], args := [d] }
  | _ => none }
def fnSegCountRow : OpenClaim := { program := "ytaoafikkamnjlaa", sum := "501b8c5479d12250ca02b4550cd3a4142ff5618008073cb1207c6af90823f314", func := "loop.example/linkboy/laws.FnSegCount", spec := "fnSegCount", apart := false }
def FnSegCountSaid : Prop := fnSegCountRow.holds Try.pinned (OpenSpec.ofChange fnSegCountSpec)

/-- ITS FALSE NEIGHBOUR: 'it returns false'. Refute it at one input. -/
def fnSegCountWrong : ChangeSpec := { name := "fnSegCount", fn := fun _ => fun
  | [d] => { results := [.lit (.bool false)], args := [d] }
  | _ => none }
def FnSegCountWrongFalsely : Prop := fnSegCountRow.holds Try.pinned (OpenSpec.ofChange fnSegCountWrong)

/-- 'laws.FnSegLost': WHATEVER THE INPUT: true; the input reads as it did. -/
def fnSegLostSpec : ChangeSpec := { name := "fnSegLost", fn := fun _ => fun
  | [d] => { results := [.lit (.bool true)], args := [d] }
  | _ => none }
def fnSegLostRow : OpenClaim := { program := "ytaoafikkamnjlaa", sum := "501b8c5479d12250ca02b4550cd3a4142ff5618008073cb1207c6af90823f314", func := "loop.example/linkboy/laws.FnSegLost", spec := "fnSegLost", unfollowed := true, recurses := true, apart := false }
def FnSegLostSaid : Prop := fnSegLostRow.holds Try.pinned (OpenSpec.ofChange fnSegLostSpec)

/-- ITS FALSE NEIGHBOUR: 'it returns false'. Refute it at one input. -/
def fnSegLostWrong : ChangeSpec := { name := "fnSegLost", fn := fun _ => fun
  | [d] => { results := [.lit (.bool false)], args := [d] }
  | _ => none }
def FnSegLostWrongFalsely : Prop := fnSegLostRow.holds Try.pinned (OpenSpec.ofChange fnSegLostWrong)

/-- 'laws.FnSegTwo': WHATEVER THE INPUT: true; the input reads as it did. -/
def fnSegTwoSpec : ChangeSpec := { name := "fnSegTwo", fn := fun _ => fun
  | [d1, d2] => { results := [.lit (.bool true)], args := [d1, d2] }
  | _ => none }
def fnSegTwoRow : OpenClaim := { program := "ytaoafikkamnjlaa", sum := "501b8c5479d12250ca02b4550cd3a4142ff5618008073cb1207c6af90823f314", func := "loop.example/linkboy/laws.FnSegTwo", spec := "fnSegTwo", unfollowed := true, recurses := true, apart := false }
def FnSegTwoSaid : Prop := fnSegTwoRow.holds Try.pinned (OpenSpec.ofChange fnSegTwoSpec)

/-- ITS FALSE NEIGHBOUR: 'it returns false'. Refute it at one input. -/
def fnSegTwoWrong : ChangeSpec := { name := "fnSegTwo", fn := fun _ => fun
  | [d1, d2] => { results := [.lit (.bool false)], args := [d1, d2] }
  | _ => none }
def FnSegTwoWrongFalsely : Prop := fnSegTwoRow.holds Try.pinned (OpenSpec.ofChange fnSegTwoWrong)

/-- 'laws.FnFrmApart': WHATEVER THE INPUT: true; the input reads as it did. -/
def fnFrmApartSpec : ChangeSpec := { name := "fnFrmApart", fn := fun _ => fun
  | [d1, d2] => { results := [.lit (.bool true)], args := [d1, d2] }
  | _ => none }
def fnFrmApartRow : OpenClaim := { program := "ytaoafikkamnjlaa", sum := "501b8c5479d12250ca02b4550cd3a4142ff5618008073cb1207c6af90823f314", func := "loop.example/linkboy/laws.FnFrmApart", spec := "fnFrmApart", unfollowed := true, recurses := true, apart := false }
def FnFrmApartSaid : Prop := fnFrmApartRow.holds Try.pinned (OpenSpec.ofChange fnFrmApartSpec)

/-- ITS FALSE NEIGHBOUR: 'it returns false'. Refute it at one input. -/
def fnFrmApartWrong : ChangeSpec := { name := "fnFrmApart", fn := fun _ => fun
  | [d1, d2] => { results := [.lit (.bool false)], args := [d1, d2] }
  | _ => none }
def FnFrmApartWrongFalsely : Prop := fnFrmApartRow.holds Try.pinned (OpenSpec.ofChange fnFrmApartWrong)

/-- 'laws.FnPartOk': WHATEVER THE INPUT: true; the input reads as it did. -/
def fnPartOkSpec : ChangeSpec := { name := "fnPartOk", fn := fun _ => fun
  | [d] => { results := [.lit (.bool true)], args := [d] }
  | _ => none }
def fnPartOkRow : OpenClaim := { program := "ytaoafikkamnjlaa", sum := "501b8c5479d12250ca02b4550cd3a4142ff5618008073cb1207c6af90823f314", func := "loop.example/linkboy/laws.FnPartOk", spec := "fnPartOk", apart := false }
def FnPartOkSaid : Prop := fnPartOkRow.holds Try.pinned (OpenSpec.ofChange fnPartOkSpec)

/-- ITS FALSE NEIGHBOUR: 'it returns false'. Refute it at one input. -/
def fnPartOkWrong : ChangeSpec := { name := "fnPartOk", fn := fun _ => fun
  | [d] => { results := [.lit (.bool false)], args := [d] }
  | _ => none }
def FnPartOkWrongFalsely : Prop := fnPartOkRow.holds Try.pinned (OpenSpec.ofChange fnPartOkWrong)

/-- 'laws.FnJoinOk': WHATEVER THE INPUT: true; the input reads as it did. -/
def fnJoinOkSpec : ChangeSpec := { name := "fnJoinOk", fn := fun _ => fun
  | [d] => { results := [.lit (.bool true)], args := [d] }
  | _ => none }
def fnJoinOkRow : OpenClaim := { program := "ytaoafikkamnjlaa", sum := "501b8c5479d12250ca02b4550cd3a4142ff5618008073cb1207c6af90823f314", func := "loop.example/linkboy/laws.FnJoinOk", spec := "fnJoinOk", apart := false }
def FnJoinOkSaid : Prop := fnJoinOkRow.holds Try.pinned (OpenSpec.ofChange fnJoinOkSpec)

/-- ITS FALSE NEIGHBOUR: 'it returns false'. Refute it at one input. -/
def fnJoinOkWrong : ChangeSpec := { name := "fnJoinOk", fn := fun _ => fun
  | [d] => { results := [.lit (.bool false)], args := [d] }
  | _ => none }
def FnJoinOkWrongFalsely : Prop := fnJoinOkRow.holds Try.pinned (OpenSpec.ofChange fnJoinOkWrong)

/- THE SECOND FORM. 'bulk': how many values and letters a reading holds, each counted each time it is reached (what is shared counts as often as it is met; a slice's spare places count too). A statement '..UptoSaid' is the law's where the arguments, and the package variables that the reading takes, are together of bulk at most 1048576: NARROWER than '..Said'. Prove '..Said' where nothing that the law and all that it calls make is longer than what came in: it says more and counts as full. Else prove '..UptoSaid'. A law counts once. -/
mutual
def uptoBulk {H : Type} : DataW H → Nat
  | .lit (.string bytes) => bytes.length + 1
  | .lit _ => 1
  | .nil => 1
  | .ptr d => uptoBulk d + 1
  | .slice elems spare => uptoBulkAll elems + uptoBulkAll spare + 1
  | .agg parts => uptoBulkAll parts + 1
  | .iface _ d => uptoBulk d + 1
  | .map entries => uptoBulkEntries entries + 1
  | .held _ => 1
def uptoBulkAll {H : Type} : List (DataW H) → Nat
  | [] => 0
  | d :: r => uptoBulk d + uptoBulkAll r
def uptoBulkEntries {H : Type} : List (Lit × DataW H) → Nat
  | [] => 0
  | x :: r => uptoBulkEntry x + uptoBulkEntries r
def uptoBulkEntry {H : Type} : Lit × DataW H → Nat
  | (.string bytes, d) => bytes.length + uptoBulk d + 1
  | (_, d) => uptoBulk d + 1
 end
def uptoSmall : (H : Type) → List (DataW H) → Bool := fun _ ds => decide (uptoBulkAll ds ≤ 1048576)
def OpenSpec.upto (s : _root_.Go.ChangeSpec) : _root_.Go.OpenSpec := { _root_.Go.OpenSpec.ofChange s with cond := some uptoSmall }

/-- 'laws.FnNegHear', WHERE WHAT IT READS IS OF BULK AT MOST 1048576: true; the input reads as it did. -/
def fnNegHearUptoRow : OpenClaim := { program := "ytaoafikkamnjlaa", sum := "501b8c5479d12250ca02b4550cd3a4142ff5618008073cb1207c6af90823f314", func := "loop.example/linkboy/laws.FnNegHear", spec := "fnNegHear", apart := false, narrowed := true }
def FnNegHearUptoSaid : Prop := fnNegHearUptoRow.holds Try.pinned (OpenSpec.upto fnNegHearSpec)

/-- 'laws.FnNegSame', WHERE WHAT IT READS IS OF BULK AT MOST 1048576: true; the input reads as it did. -/
def fnNegSameUptoRow : OpenClaim := { program := "ytaoafikkamnjlaa", sum := "501b8c5479d12250ca02b4550cd3a4142ff5618008073cb1207c6af90823f314", func := "loop.example/linkboy/laws.FnNegSame", spec := "fnNegSame", apart := false, narrowed := true }
def FnNegSameUptoSaid : Prop := fnNegSameUptoRow.holds Try.pinned (OpenSpec.upto fnNegSameSpec)

/-- 'laws.FnNegComes', WHERE WHAT IT READS IS OF BULK AT MOST 1048576: true; the input reads as it did. -/
def fnNegComesUptoRow : OpenClaim := { program := "ytaoafikkamnjlaa", sum := "501b8c5479d12250ca02b4550cd3a4142ff5618008073cb1207c6af90823f314", func := "loop.example/linkboy/laws.FnNegComes", spec := "fnNegComes", apart := false, narrowed := true }
def FnNegComesUptoSaid : Prop := fnNegComesUptoRow.holds Try.pinned (OpenSpec.upto fnNegComesSpec)

/-- 'laws.FnSegCut', WHERE WHAT IT READS IS OF BULK AT MOST 1048576: true; the input reads as it did. -/
def fnSegCutUptoRow : OpenClaim := { program := "ytaoafikkamnjlaa", sum := "501b8c5479d12250ca02b4550cd3a4142ff5618008073cb1207c6af90823f314", func := "loop.example/linkboy/laws.FnSegCut", spec := "fnSegCut", unfollowed := true, recurses := true, apart := false, narrowed := true }
def FnSegCutUptoSaid : Prop := fnSegCutUptoRow.holds Try.pinned (OpenSpec.upto fnSegCutSpec)

/-- 'laws.FnSegPut', WHERE WHAT IT READS IS OF BULK AT MOST 1048576: true; the input reads as it did. -/
def fnSegPutUptoRow : OpenClaim := { program := "ytaoafikkamnjlaa", sum := "501b8c5479d12250ca02b4550cd3a4142ff5618008073cb1207c6af90823f314", func := "loop.example/linkboy/laws.FnSegPut", spec := "fnSegPut", unfollowed := true, recurses := true, apart := false, narrowed := true }
def FnSegPutUptoSaid : Prop := fnSegPutUptoRow.holds Try.pinned (OpenSpec.upto fnSegPutSpec)

/-- 'laws.FnSegCount', WHERE WHAT IT READS IS OF BULK AT MOST 1048576: true; the input reads as it did. -/
def fnSegCountUptoRow : OpenClaim := { program := "ytaoafikkamnjlaa", sum := "501b8c5479d12250ca02b4550cd3a4142ff5618008073cb1207c6af90823f314", func := "loop.example/linkboy/laws.FnSegCount", spec := "fnSegCount", apart := false, narrowed := true }
def FnSegCountUptoSaid : Prop := fnSegCountUptoRow.holds Try.pinned (OpenSpec.upto fnSegCountSpec)

/-- 'laws.FnSegLost', WHERE WHAT IT READS IS OF BULK AT MOST 1048576: true; the input reads as it did. -/
def fnSegLostUptoRow : OpenClaim := { program := "ytaoafikkamnjlaa", sum := "501b8c5479d12250ca02b4550cd3a4142ff5618008073cb1207c6af90823f314", func := "loop.example/linkboy/laws.FnSegLost", spec := "fnSegLost", unfollowed := true, recurses := true, apart := false, narrowed := true }
def FnSegLostUptoSaid : Prop := fnSegLostUptoRow.holds Try.pinned (OpenSpec.upto fnSegLostSpec)

/-- 'laws.FnSegTwo', WHERE WHAT IT READS IS OF BULK AT MOST 1048576: true; the input reads as it did. -/
def fnSegTwoUptoRow : OpenClaim := { program := "ytaoafikkamnjlaa", sum := "501b8c5479d12250ca02b4550cd3a4142ff5618008073cb1207c6af90823f314", func := "loop.example/linkboy/laws.FnSegTwo", spec := "fnSegTwo", unfollowed := true, recurses := true, apart := false, narrowed := true }
def FnSegTwoUptoSaid : Prop := fnSegTwoUptoRow.holds Try.pinned (OpenSpec.upto fnSegTwoSpec)

/-- 'laws.FnFrmApart', WHERE WHAT IT READS IS OF BULK AT MOST 1048576: true; the input reads as it did. -/
def fnFrmApartUptoRow : OpenClaim := { program := "ytaoafikkamnjlaa", sum := "501b8c5479d12250ca02b4550cd3a4142ff5618008073cb1207c6af90823f314", func := "loop.example/linkboy/laws.FnFrmApart", spec := "fnFrmApart", unfollowed := true, recurses := true, apart := false, narrowed := true }
def FnFrmApartUptoSaid : Prop := fnFrmApartUptoRow.holds Try.pinned (OpenSpec.upto fnFrmApartSpec)

/-- 'laws.FnPartOk', WHERE WHAT IT READS IS OF BULK AT MOST 1048576: true; the input reads as it did. -/
def fnPartOkUptoRow : OpenClaim := { program := "ytaoafikkamnjlaa", sum := "501b8c5479d12250ca02b4550cd3a4142ff5618008073cb1207c6af90823f314", func := "loop.example/linkboy/laws.FnPartOk", spec := "fnPartOk", apart := false, narrowed := true }
def FnPartOkUptoSaid : Prop := fnPartOkUptoRow.holds Try.pinned (OpenSpec.upto fnPartOkSpec)

/-- 'laws.FnJoinOk', WHERE WHAT IT READS IS OF BULK AT MOST 1048576: true; the input reads as it did. -/
def fnJoinOkUptoRow : OpenClaim := { program := "ytaoafikkamnjlaa", sum := "501b8c5479d12250ca02b4550cd3a4142ff5618008073cb1207c6af90823f314", func := "loop.example/linkboy/laws.FnJoinOk", spec := "fnJoinOk", apart := false, narrowed := true }
def FnJoinOkUptoSaid : Prop := fnJoinOkUptoRow.holds Try.pinned (OpenSpec.upto fnJoinOkSpec)

end Rows
end Go.Proofs.Ytaoafikkamnjlaa
