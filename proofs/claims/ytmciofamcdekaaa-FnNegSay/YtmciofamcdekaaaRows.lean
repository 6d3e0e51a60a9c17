/-
  No cell of these rows narrows 'for every input' (looked for: loops, veiled, ifaces, maps, wideKeys, modest, calm, conditions, laid).
  DERIVED. THE GIVEN ROWS OF THIS SEAT. 12 by the template 'for every input the law returns true; each argument reads behind the call as it read before'; 0 by the template 'total and deterministic' (their statements: YtmciofamcdekaaaTotals.lean).
  GIVEN WITH THE SEED: the statements are not yours to turn. If you find one false, say at which input.
  Laid BY PROGRAM, IN A SANDBOX (cutbox-rows.mjs): the forced cells as the released guide's own fill.sh prints them over the translation 7b000cb750f7b970… (all of the seat's roots in one cut). By AI agents, Wed Nov 11 2026. No macro, syntax, notation, axiom, sorry.
-/
import Derived.Test.YtmciofamcdekaaaChecked
import GoSem.Claim
import GoSem.ClaimJoined
import GoSem.ClaimMapViews
import Derived.JoinedTies
import Derived.KernelRfl
namespace Go.Proofs.Ytmciofamcdekaaa
/- THE CELL 'sum', in the pinned program and in every row, IS THE sha256 OF THE DUMP (.gsa) THAT YtmciofamcdekaaaProg.lean LOADS. Nothing in Lean hashes anything: it is a label: what it is worth is what the hold of that sum in a sandbox is worth. -/
noncomputable def Try.pinned : Pinned := { name := "ytmciofamcdekaaa", sum := "7b000cb750f7b9705847d5b0ece4d52ffe074f40509d80f8335453c7457271bd", checked := Try.checked }
namespace Rows
def none {H : Type} : Left H := { results := [], args := [] }

/-- 'laws.FnExactNegNew': WHATEVER THE INPUT: true; the input reads as it did. -/
def fnExactNegNewSpec : ChangeSpec := { name := "fnExactNegNew", fn := fun _ => fun
  | [d] => { results := [.lit (.bool true)], args := [d] }
  | _ => none }
def fnExactNegNewRow : OpenClaim := { program := "ytmciofamcdekaaa", sum := "7b000cb750f7b9705847d5b0ece4d52ffe074f40509d80f8335453c7457271bd", func := "loop.example/linkboy/laws.FnExactNegNew", spec := "fnExactNegNew", apart := false }
def FnExactNegNewSaid : Prop := fnExactNegNewRow.holds Try.pinned (OpenSpec.ofChange fnExactNegNewSpec)

/-- ITS FALSE NEIGHBOUR: 'it returns false'. Refute it at one input. -/
def fnExactNegNewWrong : ChangeSpec := { name := "fnExactNegNew", fn := fun _ => fun
  | [d] => { results := [.lit (.bool false)], args := [d] }
  | _ => none }
def FnExactNegNewWrongFalsely : Prop := fnExactNegNewRow.holds Try.pinned (OpenSpec.ofChange fnExactNegNewWrong)

/-- 'laws.FnExactNegOk': WHATEVER THE INPUT: true; the input reads as it did. -/
def fnExactNegOkSpec : ChangeSpec := { name := "fnExactNegOk", fn := fun _ => fun
  | [d] => { results := [.lit (.bool true)], args := [d] }
  | _ => none }
def fnExactNegOkRow : OpenClaim := { program := "ytmciofamcdekaaa", sum := "7b000cb750f7b9705847d5b0ece4d52ffe074f40509d80f8335453c7457271bd", func := "loop.example/linkboy/laws.FnExactNegOk", spec := "fnExactNegOk", apart := false }
def FnExactNegOkSaid : Prop := fnExactNegOkRow.holds Try.pinned (OpenSpec.ofChange fnExactNegOkSpec)

/-- ITS FALSE NEIGHBOUR: 'it returns false'. Refute it at one input. -/
def fnExactNegOkWrong : ChangeSpec := { name := "fnExactNegOk", fn := fun _ => fun
  | [d] => { results := [.lit (.bool false)], args := [d] }
  | _ => none }
def FnExactNegOkWrongFalsely : Prop := fnExactNegOkRow.holds Try.pinned (OpenSpec.ofChange fnExactNegOkWrong)

/-- 'laws.FnExactNegSay': WHATEVER THE INPUT: true; the input reads as it did. -/
def fnExactNegSaySpec : ChangeSpec := { name := "fnExactNegSay", fn := fun _ => fun
  | [d] => { results := [.lit (.bool true)], args := [d] }
  | _ => none }
def fnExactNegSayRow : OpenClaim := { program := "ytmciofamcdekaaa", sum := "7b000cb750f7b9705847d5b0ece4d52ffe074f40509d80f8335453c7457271bd", func := "loop.example/linkboy/laws.FnExactNegSay", spec := "fnExactNegSay", apart := false }
def FnExactNegSaySaid : Prop := fnExactNegSayRow.holds Try.pinned (OpenSpec.ofChange fnExactNegSaySpec)

/-- ITS FALSE NEIGHBOUR: 'it returns false'. Refute it at one input. -/
def fnExactNegSayWrong : ChangeSpec := { name := "fnExactNegSay", fn := fun _ => fun
  | [d] => { results := [.lit (.bool false)], args := [d] }
  | _ => none }
def FnExactNegSayWrongFalsely : Prop := fnExactNegSayRow.holds Try.pinned (OpenSpec.ofChange fnExactNegSayWrong)

/-- 'laws.FnCfgMeet': WHATEVER THE INPUT: true; the input reads as it did. -/
def fnCfgMeetSpec : ChangeSpec := { name := "fnCfgMeet", fn := fun _ => fun
  | [d] => { results := [.lit (.bool true)], args := [d] }
  | _ => none }
def fnCfgMeetRow : OpenClaim := { program := "ytmciofamcdekaaa", sum := "7b000cb750f7b9705847d5b0ece4d52ffe074f40509d80f8335453c7457271bd", func := "loop.example/linkboy/laws.FnCfgMeet", spec := "fnCfgMeet", apart := false }
def FnCfgMeetSaid : Prop := fnCfgMeetRow.holds Try.pinned (OpenSpec.ofChange fnCfgMeetSpec)

/-- ITS FALSE NEIGHBOUR: 'it returns false'. Refute it at one input. -/
def fnCfgMeetWrong : ChangeSpec := { name := "fnCfgMeet", fn := fun _ => fun
  | [d] => { results := [.lit (.bool false)], args := [d] }
  | _ => none }
def FnCfgMeetWrongFalsely : Prop := fnCfgMeetRow.holds Try.pinned (OpenSpec.ofChange fnCfgMeetWrong)

/-- 'laws.FnCfgThree': WHATEVER THE INPUT: true; the input reads as it did. -/
def fnCfgThreeSpec : ChangeSpec := { name := "fnCfgThree", fn := fun _ => fun
  | [d1, d2] => { results := [.lit (.bool true)], args := [d1, d2] }
  | _ => none }
def fnCfgThreeRow : OpenClaim := { program := "ytmciofamcdekaaa", sum := "7b000cb750f7b9705847d5b0ece4d52ffe074f40509d80f8335453c7457271bd", func := "loop.example/linkboy/laws.FnCfgThree", spec := "fnCfgThree", apart := false }
def FnCfgThreeSaid : Prop := fnCfgThreeRow.holds Try.pinned (OpenSpec.ofChange fnCfgThreeSpec)

/-- ITS FALSE NEIGHBOUR: 'it returns false'. Refute it at one input. -/
def fnCfgThreeWrong : ChangeSpec := { name := "fnCfgThree", fn := fun _ => fun
  | [d1, d2] => { results := [.lit (.bool false)], args := [d1, d2] }
  | _ => none }
def FnCfgThreeWrongFalsely : Prop := fnCfgThreeRow.holds Try.pinned (OpenSpec.ofChange fnCfgThreeWrong)

/-- 'laws.FnNegLess': WHATEVER THE INPUT: true; the input reads as it did. -/
def fnNegLessSpec : ChangeSpec := { name := "fnNegLess", fn := fun _ => fun
  | [d] => { results := [.lit (.bool true)], args := [d] }
  | _ => none }
def fnNegLessRow : OpenClaim := { program := "ytmciofamcdekaaa", sum := "7b000cb750f7b9705847d5b0ece4d52ffe074f40509d80f8335453c7457271bd", func := "loop.example/linkboy/laws.FnNegLess", spec := "fnNegLess", apart := false }
def FnNegLessSaid : Prop := fnNegLessRow.holds Try.pinned (OpenSpec.ofChange fnNegLessSpec)

/-- ITS FALSE NEIGHBOUR: 'it returns false'. Refute it at one input. -/
def fnNegLessWrong : ChangeSpec := { name := "fnNegLess", fn := fun _ => fun
  | [d] => { results := [.lit (.bool false)], args := [d] }
  | _ => none }
def FnNegLessWrongFalsely : Prop := fnNegLessRow.holds Try.pinned (OpenSpec.ofChange fnNegLessWrong)

/-- 'laws.FnNegOk': WHATEVER THE INPUT: true; the input reads as it did. -/
def fnNegOkSpec : ChangeSpec := { name := "fnNegOk", fn := fun _ => fun
  | [d] => { results := [.lit (.bool true)], args := [d] }
  | _ => none }
def fnNegOkRow : OpenClaim := { program := "ytmciofamcdekaaa", sum := "7b000cb750f7b9705847d5b0ece4d52ffe074f40509d80f8335453c7457271bd", func := "loop.example/linkboy/laws.FnNegOk", spec := "fnNegOk", apart := false }
def FnNegOkSaid : Prop := fnNegOkRow.holds Try.pinned (OpenSpec.ofChange fnNegOkSpec)

/-- ITS FALSE NEIGHBOUR: 'it returns false'. Refute it at one input. -/
def fnNegOkWrong : ChangeSpec := { name := "fnNegOk", fn := fun _ => fun
  | [d] => { results := [.lit (.bool false)], args := [d] }
  | _ => none }
def FnNegOkWrongFalsely : Prop := fnNegOkRow.holds Try.pinned (OpenSpec.ofChange fnNegOkWrong)

/-- 'laws.FnNegSay': WHATEVER THE INPUT: true; the input reads as it did. -/
def fnNegSaySpec : ChangeSpec := { name := "fnNegSay", fn := fun _ => fun
  | [d1, d2] => { results := [.lit (.bool true)], args := [d1, d2] }
  | _ => none }
def fnNegSayRow : OpenClaim := { program := "ytmciofamcdekaaa", sum := "7b000cb750f7b9705847d5b0ece4d52ffe074f40509d80f8335453c7457271bd", func := "loop.example/linkboy/laws.FnNegSay", spec := "fnNegSay", apart := false }
def FnNegSaySaid : Prop := fnNegSayRow.holds Try.pinned (OpenSpec.ofChange fnNegSaySpec)

/-- ITS FALSE NEIGHBOUR: 'it returns false'. Refute it at one input. -/
def fnNegSayWrong : ChangeSpec := { name := "fnNegSay", fn := fun _ => fun
  | [d1, d2] => { results := [.lit (.bool false)], args := [d1, d2] }
  | _ => none }
def FnNegSayWrongFalsely : Prop := fnNegSayRow.holds Try.pinned (OpenSpec.ofChange fnNegSayWrong)

/-- 'laws.FnNegHear': WHATEVER THE INPUT: true; the input reads as it did. -/
def fnNegHearSpec : ChangeSpec := { name := "fnNegHear", fn := fun _ => fun
  | [d] => { results := [.lit (.bool true)], args := [d] }
  | _ => none }
def fnNegHearRow : OpenClaim := { program := "ytmciofamcdekaaa", sum := "7b000cb750f7b9705847d5b0ece4d52ffe074f40509d80f8335453c7457271bd", func := "loop.example/linkboy/laws.FnNegHear", spec := "fnNegHear", apart := false }
def FnNegHearSaid : Prop := fnNegHearRow.holds Try.pinned (OpenSpec.ofChange fnNegHearSpec)

/-- ITS FALSE NEIGHBOUR: 'it returns false'. Refute it at one input. -/
def fnNegHearWrong : ChangeSpec := { name := "fnNegHear", fn := fun _ => fun
  | [d] => { results := [.lit (.bool false)], args := [d] }
  | _ => none }
def FnNegHearWrongFalsely : Prop := fnNegHearRow.holds Try.pinned (OpenSpec.ofChange fnNegHearWrong)

/-- 'laws.FnNegTwice': WHATEVER THE INPUT: true; the input reads as it did. -/
def fnNegTwiceSpec : ChangeSpec := { name := "fnNegTwice", fn := fun _ => fun
  | [d] => { results := [.lit (.bool true)], args := [d] }
  | _ => none }
def fnNegTwiceRow : OpenClaim := { program := "ytmciofamcdekaaa", sum := "7b000cb750f7b9705847d5b0ece4d52ffe074f40509d80f8335453c7457271bd", func := "loop.example/linkboy/laws.FnNegTwice", spec := "fnNegTwice", apart := false }
def FnNegTwiceSaid : Prop := fnNegTwiceRow.holds Try.pinned (OpenSpec.ofChange fnNegTwiceSpec)

/-- ITS FALSE NEIGHBOUR: 'it returns false'. Refute it at one input. -/
def fnNegTwiceWrong : ChangeSpec := { name := "fnNegTwice", fn := fun _ => fun
  | [d] => { results := [.lit (.bool false)], args := [d] }
  | _ => none }
def FnNegTwiceWrongFalsely : Prop := fnNegTwiceRow.holds Try.pinned (OpenSpec.ofChange fnNegTwiceWrong)

/-- 'laws.FnNegSame': WHATEVER THE INPUT: true; the input reads as it did. -/
def fnNegSameSpec : ChangeSpec := { name := "fnNegSame", fn := fun _ => fun
  | [d] => { results := [.lit (.bool true)], args := [d] }
  | _ => none }
def fnNegSameRow : OpenClaim := { program := "ytmciofamcdekaaa", sum := "7b000cb750f7b9705847d5b0ece4d52ffe074f40509d80f8335453c7457271bd", func := "loop.example/linkboy/laws.FnNegSame", spec := "fnNegSame", apart := false }
def FnNegSameSaid : Prop := fnNegSameRow.holds Try.pinned (OpenSpec.ofChange fnNegSameSpec)

/-- ITS FALSE NEIGHBOUR: 'it returns false'. Refute it at one input. -/
def fnNegSameWrong : ChangeSpec := { name := "fnNegSame", fn := fun _ => fun
  | [d] => { results := [.lit (.bool false)], args := [d] }
  | _ => none }
def FnNegSameWrongFalsely : Prop := fnNegSameRow.holds Try.pinned (OpenSpec.ofChange fnNegSameWrong)

/-- 'laws.FnNegComes': WHATEVER THE INPUT: true; the input reads as it did. -/
def fnNegComesSpec : ChangeSpec := { name := "fnNegComes", fn := fun _ => fun
  | [d] => { results := [.lit (.bool true)], args := [d] }
  | _ => none }
def fnNegComesRow : OpenClaim := { program := "ytmciofamcdekaaa", sum := "7b000cb750f7b9705847d5b0ece4d52ffe074f40509d80f8335453c7457271bd", func := "loop.example/linkboy/laws.FnNegComes", spec := "fnNegComes", apart := false }
def FnNegComesSaid : Prop := fnNegComesRow.holds Try.pinned (OpenSpec.ofChange fnNegComesSpec)

/-- ITS FALSE NEIGHBOUR: 'it returns false'. Refute it at one input. -/
def fnNegComesWrong : ChangeSpec := { name := "fnNegComes", fn := fun _ => fun
  | [d] => { results := [.lit (.bool false)], args := [d] }
  | _ => none }
def FnNegComesWrongFalsely : Prop := fnNegComesRow.holds Try.pinned (OpenSpec.ofChange fnNegComesWrong)

/- THE SECOND FORM. 'bulk': how many values and letters a reading holds, each counted each time it is reached (what is shared counts as often as it is met; a slice's spare places count too). A statement '..UptoSaid' is the law's where the arguments, and the package variables that the reading takes, are together of bulk at most 1048576: NARROWER than '..Said'. Prove '..Said' where nothing that the law and all that it calls make is longer than what came in: it says more and counts as full. Else prove '..UptoSaid'. A law counts once. -/
mutual
def uptoBulk {H : Type} : DataW H → Nat
  | .lit (.string bytes) => bytes.length + 1
  | .lit _ => 1
  | .nil => 1
  | .ptr d => uptoBulk d + 1
  | .slice elems spare => uptoBulkAll elems + uptoBulkAll spare + 1
  | .agg parts => uptoBulkAll parts + 1
  | .iface _ d => uptoBulk d + 1
  | .map entries => uptoBulkEntries entries + 1
  | .held _ => 1
def uptoBulkAll {H : Type} : List (DataW H) → Nat
  | [] => 0
  | d :: r => uptoBulk d + uptoBulkAll r
def uptoBulkEntries {H : Type} : List (Lit × DataW H) → Nat
  | [] => 0
  | x :: r => uptoBulkEntry x + uptoBulkEntries r
def uptoBulkEntry {H : Type} : Lit × DataW H → Nat
  | (.string bytes, d) => bytes.length + uptoBulk d + 1
  | (_, d) => uptoBulk d + 1
 end
def uptoSmall : (H : Type) → List (DataW H) → Bool := fun _ ds => decide (uptoBulkAll ds ≤ 1048576)
def OpenSpec.upto (s : _root_.Go.ChangeSpec) : _root_.Go.OpenSpec := { _root_.Go.OpenSpec.ofChange s with cond := some uptoSmall }

/-- 'laws.FnExactNegNew', WHERE WHAT IT READS IS OF BULK AT MOST 1048576: true; the input reads as it did. -/
def fnExactNegNewUptoRow : OpenClaim := { program := "ytmciofamcdekaaa", sum := "7b000cb750f7b9705847d5b0ece4d52ffe074f40509d80f8335453c7457271bd", func := "loop.example/linkboy/laws.FnExactNegNew", spec := "fnExactNegNew", apart := false, narrowed := true }
def FnExactNegNewUptoSaid : Prop := fnExactNegNewUptoRow.holds Try.pinned (OpenSpec.upto fnExactNegNewSpec)

/-- 'laws.FnExactNegOk', WHERE WHAT IT READS IS OF BULK AT MOST 1048576: true; the input reads as it did. -/
def fnExactNegOkUptoRow : OpenClaim := { program := "ytmciofamcdekaaa", sum := "7b000cb750f7b9705847d5b0ece4d52ffe074f40509d80f8335453c7457271bd", func := "loop.example/linkboy/laws.FnExactNegOk", spec := "fnExactNegOk", apart := false, narrowed := true }
def FnExactNegOkUptoSaid : Prop := fnExactNegOkUptoRow.holds Try.pinned (OpenSpec.upto fnExactNegOkSpec)

/-- 'laws.FnExactNegSay', WHERE WHAT IT READS IS OF BULK AT MOST 1048576: true; the input reads as it did. -/
def fnExactNegSayUptoRow : OpenClaim := { program := "ytmciofamcdekaaa", sum := "7b000cb750f7b9705847d5b0ece4d52ffe074f40509d80f8335453c7457271bd", func := "loop.example/linkboy/laws.FnExactNegSay", spec := "fnExactNegSay", apart := false, narrowed := true }
def FnExactNegSayUptoSaid : Prop := fnExactNegSayUptoRow.holds Try.pinned (OpenSpec.upto fnExactNegSaySpec)

/-- 'laws.FnCfgMeet', WHERE WHAT IT READS IS OF BULK AT MOST 1048576: true; the input reads as it did. -/
def fnCfgMeetUptoRow : OpenClaim := { program := "ytmciofamcdekaaa", sum := "7b000cb750f7b9705847d5b0ece4d52ffe074f40509d80f8335453c7457271bd", func := "loop.example/linkboy/laws.FnCfgMeet", spec := "fnCfgMeet", apart := false, narrowed := true }
def FnCfgMeetUptoSaid : Prop := fnCfgMeetUptoRow.holds Try.pinned (OpenSpec.upto fnCfgMeetSpec)

/-- 'laws.FnCfgThree', WHERE WHAT IT READS IS OF BULK AT MOST 1048576: true; the input reads as it did. -/
def fnCfgThreeUptoRow : OpenClaim := { program := "ytmciofamcdekaaa", sum := "7b000cb750f7b9705847d5b0ece4d52ffe074f40509d80f8335453c7457271bd", func := "loop.example/linkboy/laws.FnCfgThree", spec := "fnCfgThree", apart := false, narrowed := true }
def FnCfgThreeUptoSaid : Prop := fnCfgThreeUptoRow.holds Try.pinned (OpenSpec.upto fnCfgThreeSpec)

/-- 'laws.FnNegLess', WHERE WHAT IT READS IS OF BULK AT MOST 1048576: true; the input reads as it did. -/
def fnNegLessUptoRow : OpenClaim := { program := "ytmciofamcdekaaa", sum := "7b000cb750f7b9705847d5b0ece4d52ffe074f40509d80f8335453c7457271bd", func := "loop.example/linkboy/laws.FnNegLess", spec := "fnNegLess", apart := false, narrowed := true }
def FnNegLessUptoSaid : Prop := fnNegLessUptoRow.holds Try.pinned (OpenSpec.upto fnNegLessSpec)

/-- 'laws.FnNegOk', WHERE WHAT IT READS IS OF BULK AT MOST 1048576: true; the input reads as it did. -/
def fnNegOkUptoRow : OpenClaim := { program := "ytmciofamcdekaaa", sum := "7b000cb750f7b9705847d5b0ece4d52ffe074f40509d80f8335453c7457271bd", func := "loop.example/linkboy/laws.FnNegOk", spec := "fnNegOk", apart := false, narrowed := true }
def FnNegOkUptoSaid : Prop := fnNegOkUptoRow.holds Try.pinned (OpenSpec.upto fnNegOkSpec)

/-- 'laws.FnNegSay', WHERE WHAT IT READS IS OF BULK AT MOST 1048576: true; the input reads as it did. -/
def fnNegSayUptoRow : OpenClaim := { program := "ytmciofamcdekaaa", sum := "7b000cb750f7b9705847d5b0ece4d52ffe074f40509d80f8335453c7457271bd", func := "loop.example/linkboy/laws.FnNegSay", spec := "fnNegSay", apart := false, narrowed := true }
def FnNegSayUptoSaid : Prop := fnNegSayUptoRow.holds Try.pinned (OpenSpec.upto fnNegSaySpec)

/-- 'laws.FnNegHear', WHERE WHAT IT READS IS OF BULK AT MOST 1048576: true; the input reads as it did. -/
def fnNegHearUptoRow : OpenClaim := { program := "ytmciofamcdekaaa", sum := "7b000cb750f7b9705847d5b0ece4d52ffe074f40509d80f8335453c7457271bd", func := "loop.example/linkboy/laws.FnNegHear", spec := "fnNegHear", apart := false, narrowed := true }
def FnNegHearUptoSaid : Prop := fnNegHearUptoRow.holds Try.pinned (OpenSpec.upto fnNegHearSpec)

/-- 'laws.FnNegTwice', WHERE WHAT IT READS IS OF BULK AT MOST 1048576: true; the input reads as it did. -/
def fnNegTwiceUptoRow : OpenClaim := { program := "ytmciofamcdekaaa", sum := "7b000cb750f7b9705847d5b0ece4d52ffe074f40509d80f8335453c7457271bd", func := "loop.example/linkboy/laws.FnNegTwice", spec := "fnNegTwice", apart := false, narrowed := true }
def FnNegTwiceUptoSaid : Prop := fnNegTwiceUptoRow.holds Try.pinned (OpenSpec.upto fnNegTwiceSpec)

/-- 'laws.FnNegSame', WHERE WHAT IT READS IS OF BULK AT MOST 1048576: true; the input reads as it did. -/
def fnNegSameUptoRow : OpenClaim := { program := "ytmciofamcdekaaa", sum := "7b000cb750f7b9705847d5b0ece4d52ffe074f40509d80f8335453c7457271bd", func := "loop.example/linkboy/laws.FnNegSame", spec := "fnNegSame", apart := false, narrowed := true }
def FnNegSameUptoSaid : Prop := fnNegSameUptoRow.holds Try.pinned (OpenSpec.upto fnNegSameSpec)

/-- 'laws.FnNegComes', WHERE WHAT IT READS IS OF BULK AT MOST 1048576: true; the input reads as it did. -/
def fnNegComesUptoRow : OpenClaim := { program := "ytmciofamcdekaaa", sum := "7b000cb750f7b9705847d5b0ece4d52ffe074f40509d80f8335453c7457271bd", func := "loop.example/linkboy/laws.FnNegComes", spec := "fnNegComes", apart := false, narrowed := true }
def FnNegComesUptoSaid : Prop := fnNegComesUptoRow.holds Try.pinned (OpenSpec.upto fnNegComesSpec)

end Rows
end Go.Proofs.Ytmciofamcdekaaa
