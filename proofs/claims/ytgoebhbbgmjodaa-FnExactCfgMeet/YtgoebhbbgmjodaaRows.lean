/-
  No cell of these rows narrows 'for every input' (looked for: loops, veiled, ifaces, maps, wideKeys, modest, calm, conditions, laid).
  DERIVED. THE GIVEN ROWS OF THIS SEAT. 6 by the template 'for every input the law returns true; each argument reads behind the call as it read before'; 0 by the template 'total and deterministic' (their statements: YtgoebhbbgmjodaaTotals.lean).
  GIVEN WITH THE SEED: the statements are not yours to turn. If you find one false, say at which input.
  Laid BY PROGRAM, IN A SANDBOX (cutbox-rows.mjs): the forced cells as the released guide's own fill.sh prints them over the translation d2bfb925b40a122f… (all of the seat's roots in one cut). By AI agents, Wed Nov 11 2026. No macro, syntax, notation, axiom, sorry.
-/
import Derived.Test.YtgoebhbbgmjodaaChecked
import GoSem.Claim
import GoSem.ClaimJoined
import GoSem.ClaimMapViews
import Derived.JoinedTies
import Derived.KernelRfl
namespace Go.Proofs.Ytgoebhbbgmjodaa
/- THE CELL 'sum', in the pinned program and in every row, IS THE sha256 OF THE DUMP (.gsa) THAT YtgoebhbbgmjodaaProg.lean LOADS. Nothing in Lean hashes anything: it is a label: what it is worth is what the hold of that sum in a sandbox is worth. -/
noncomputable def Try.pinned : Pinned := { name := "ytgoebhbbgmjodaa", sum := "d2bfb925b40a122ff91e150a2d014b792b2beaf5846172bee627a4f67e42cf93", checked := Try.checked }
namespace Rows
def none {H : Type} : Left H := { results := [], args := [] }

/-- 'laws.FnExactCfgOk': WHATEVER THE INPUT: true; the input reads as it did. -/
def fnExactCfgOkSpec : ChangeSpec := { name := "fnExactCfgOk", fn := fun _ => fun
  | [d] => { results := [.lit (.bool true)], args := [d] }
  | _ => none }
def fnExactCfgOkRow : OpenClaim := { program := "ytgoebhbbgmjodaa", sum := "d2bfb925b40a122ff91e150a2d014b792b2beaf5846172bee627a4f67e42cf93", func := "loop.example/linkboy/laws.FnExactCfgOk", spec := "fnExactCfgOk", apart := false }
def FnExactCfgOkSaid : Prop := fnExactCfgOkRow.holds Try.pinned (OpenSpec.ofChange fnExactCfgOkSpec)

/-- ITS FALSE NEIGHBOUR: 'it returns false'. Refute it at one input. -/
def fnExactCfgOkWrong : ChangeSpec := { name := "fnExactCfgOk", fn := fun _ => fun
  | [d] => { results := [.lit (.bool false)], args := [d] }
  | _ => none }
def FnExactCfgOkWrongFalsely : Prop := fnExactCfgOkRow.holds Try.pinned (OpenSpec.ofChange fnExactCfgOkWrong)

/-- 'laws.FnExactCfgMeet': WHATEVER THE INPUT: true; the input reads as it did. -/
def fnExactCfgMeetSpec : ChangeSpec := { name := "fnExactCfgMeet", fn := fun _ => fun
  | [d1, d2] => { results := [.lit (.bool true)], args := [d1, d2] }
  | _ => none }
def fnExactCfgMeetRow : OpenClaim := { program := "ytgoebhbbgmjodaa", sum := "d2bfb925b40a122ff91e150a2d014b792b2beaf5846172bee627a4f67e42cf93", func := "loop.example/linkboy/laws.FnExactCfgMeet", spec := "fnExactCfgMeet", apart := false }
def FnExactCfgMeetSaid : Prop := fnExactCfgMeetRow.holds Try.pinned (OpenSpec.ofChange fnExactCfgMeetSpec)

/-- ITS FALSE NEIGHBOUR: 'it returns false'. Refute it at one input. -/
def fnExactCfgMeetWrong : ChangeSpec := { name := "fnExactCfgMeet", fn := fun _ => fun
  | [d1, d2] => { results := [.lit (.bool false)], args := [d1, d2] }
  | _ => none }
def FnExactCfgMeetWrongFalsely : Prop := fnExactCfgMeetRow.holds Try.pinned (OpenSpec.ofChange fnExactCfgMeetWrong)

/-- 'laws.FnExactNegNew': WHATEVER THE INPUT: true; the input reads as it did. -/
def fnExactNegNewSpec : ChangeSpec := { name := "fnExactNegNew", fn := fun _ => fun
  | [d] => { results := [.lit (.bool true)], args := [d] }
  | _ => none }
def fnExactNegNewRow : OpenClaim := { program := "ytgoebhbbgmjodaa", sum := "d2bfb925b40a122ff91e150a2d014b792b2beaf5846172bee627a4f67e42cf93", func := "loop.example/linkboy/laws.FnExactNegNew", spec := "fnExactNegNew", apart := false }
def FnExactNegNewSaid : Prop := fnExactNegNewRow.holds Try.pinned (OpenSpec.ofChange fnExactNegNewSpec)

/-- ITS FALSE NEIGHBOUR: 'it returns false'. Refute it at one input. -/
def fnExactNegNewWrong : ChangeSpec := { name := "fnExactNegNew", fn := fun _ => fun
  | [d] => { results := [.lit (.bool false)], args := [d] }
  | _ => none }
def FnExactNegNewWrongFalsely : Prop := fnExactNegNewRow.holds Try.pinned (OpenSpec.ofChange fnExactNegNewWrong)

/-- 'laws.FnExactNegOk': WHATEVER THE INPUT: true; the input reads as it did. -/
def fnExactNegOkSpec : ChangeSpec := { name := "fnExactNegOk", fn := fun _ => fun
  | [d] => { results := [.lit (.bool true)], args := [d] }
  | _ => none }
def fnExactNegOkRow : OpenClaim := { program := "ytgoebhbbgmjodaa", sum := "d2bfb925b40a122ff91e150a2d014b792b2beaf5846172bee627a4f67e42cf93", func := "loop.example/linkboy/laws.FnExactNegOk", spec := "fnExactNegOk", apart := false }
def FnExactNegOkSaid : Prop := fnExactNegOkRow.holds Try.pinned (OpenSpec.ofChange fnExactNegOkSpec)

/-- ITS FALSE NEIGHBOUR: 'it returns false'. Refute it at one input. -/
def fnExactNegOkWrong : ChangeSpec := { name := "fnExactNegOk", fn := fun _ => fun
  | [d] => { results := [.lit (.bool false)], args := [d] }
  | _ => none }
def FnExactNegOkWrongFalsely : Prop := fnExactNegOkRow.holds Try.pinned (OpenSpec.ofChange fnExactNegOkWrong)

/-- 'laws.FnExactNegSay': WHATEVER THE INPUT: true; the input reads as it did. -/
def fnExactNegSaySpec : ChangeSpec := { name := "fnExactNegSay", fn := fun _ => fun
  | [d] => { results := [.lit (.bool true)], args := [d] }
  | _ => none }
def fnExactNegSayRow : OpenClaim := { program := "ytgoebhbbgmjodaa", sum := "d2bfb925b40a122ff91e150a2d014b792b2beaf5846172bee627a4f67e42cf93", func := "loop.example/linkboy/laws.FnExactNegSay", spec := "fnExactNegSay", apart := false }
def FnExactNegSaySaid : Prop := fnExactNegSayRow.holds Try.pinned (OpenSpec.ofChange fnExactNegSaySpec)

/-- ITS FALSE NEIGHBOUR: 'it returns false'. Refute it at one input. -/
def fnExactNegSayWrong : ChangeSpec := { name := "fnExactNegSay", fn := fun _ => fun
  | [d] => { results := [.lit (.bool false)], args := [d] }
  | _ => none }
def FnExactNegSayWrongFalsely : Prop := fnExactNegSayRow.holds Try.pinned (OpenSpec.ofChange fnExactNegSayWrong)

/-- 'laws.FnExactNegHear': WHATEVER THE INPUT: true; the input reads as it did. -/
def fnExactNegHearSpec : ChangeSpec := { name := "fnExactNegHear", fn := fun _ => fun
  | [d1, d2] => { results := [.lit (.bool true)], args := [d1, d2] }
  | _ => none }
def fnExactNegHearRow : OpenClaim := { program := "ytgoebhbbgmjodaa", sum := "d2bfb925b40a122ff91e150a2d014b792b2beaf5846172bee627a4f67e42cf93", func := "loop.example/linkboy/laws.FnExactNegHear", spec := "fnExactNegHear", apart := false }
def FnExactNegHearSaid : Prop := fnExactNegHearRow.holds Try.pinned (OpenSpec.ofChange fnExactNegHearSpec)

/-- ITS FALSE NEIGHBOUR: 'it returns false'. Refute it at one input. -/
def fnExactNegHearWrong : ChangeSpec := { name := "fnExactNegHear", fn := fun _ => fun
  | [d1, d2] => { results := [.lit (.bool false)], args := [d1, d2] }
  | _ => none }
def FnExactNegHearWrongFalsely : Prop := fnExactNegHearRow.holds Try.pinned (OpenSpec.ofChange fnExactNegHearWrong)

/- THE SECOND FORM. 'bulk': how many values and letters a reading holds, each counted each time it is reached (what is shared counts as often as it is met; a slice's spare places count too). A statement '..UptoSaid' is the law's where the arguments, and the package variables that the reading takes, are together of bulk at most 1048576: NARROWER than '..Said'. Prove '..Said' where nothing that the law and all that it calls make is longer than what came in: it says more and counts as full. Else prove '..UptoSaid'. A law counts once. -/
mutual
def uptoBulk {H : Type} : DataW H → Nat
  | .lit (.string bytes) => bytes.length + 1
  | .lit _ => 1
  | .nil => 1
  | .ptr d => uptoBulk d + 1
  | .slice elems spare => uptoBulkAll elems + uptoBulkAll spare + 1
  | .agg parts => uptoBulkAll parts + 1
  | .iface _ d => uptoBulk d + 1
  | .map entries => uptoBulkEntries entries + 1
  | .held _ => 1
def uptoBulkAll {H : Type} : List (DataW H) → Nat
  | [] => 0
  | d :: r => uptoBulk d + uptoBulkAll r
def uptoBulkEntries {H : Type} : List (Lit × DataW H) → Nat
  | [] => 0
  | x :: r => uptoBulkEntry x + uptoBulkEntries r
def uptoBulkEntry {H : Type} : Lit × DataW H → Nat
  | (.string bytes, d) => bytes.length + uptoBulk d + 1
  | (_, d) => uptoBulk d + 1
 end
def uptoSmall : (H : Type) → List (DataW H) → Bool := fun _ ds => decide (uptoBulkAll ds ≤ 1048576)
def OpenSpec.upto (s : _root_.Go.ChangeSpec) : _root_.Go.OpenSpec := { _root_.Go.OpenSpec.ofChange s with cond := some uptoSmall }

/-- 'laws.FnExactCfgOk', WHERE WHAT IT READS IS OF BULK AT MOST 1048576: true; the input reads as it did. -/
def fnExactCfgOkUptoRow : OpenClaim := { program := "ytgoebhbbgmjodaa", sum := "d2bfb925b40a122ff91e150a2d014b792b2beaf5846172bee627a4f67e42cf93", func := "loop.example/linkboy/laws.FnExactCfgOk", spec := "fnExactCfgOk", apart := false, narrowed := true }
def FnExactCfgOkUptoSaid : Prop := fnExactCfgOkUptoRow.holds Try.pinned (OpenSpec.upto fnExactCfgOkSpec)

/-- 'laws.FnExactCfgMeet', WHERE WHAT IT READS IS OF BULK AT MOST 1048576: true; the input reads as it did. -/
def fnExactCfgMeetUptoRow : OpenClaim := { program := "ytgoebhbbgmjodaa", sum := "d2bfb925b40a122ff91e150a2d014b792b2beaf5846172bee627a4f67e42cf93", func := "loop.example/linkboy/laws.FnExactCfgMeet", spec := "fnExactCfgMeet", apart := false, narrowed := true }
def FnExactCfgMeetUptoSaid : Prop := fnExactCfgMeetUptoRow.holds Try.pinned (OpenSpec.upto fnExactCfgMeetSpec)

/-- 'laws.FnExactNegNew', WHERE WHAT IT READS IS OF BULK AT MOST 1048576: true; the input reads as it did. -/
def fnExactNegNewUptoRow : OpenClaim := { program := "ytgoebhbbgmjodaa", sum := "d2bfb925b40a122ff91e150a2d014b792b2beaf5846172bee627a4f67e42cf93", func := "loop.example/linkboy/laws.FnExactNegNew", spec := "fnExactNegNew", apart := false, narrowed := true }
def FnExactNegNewUptoSaid : Prop := fnExactNegNewUptoRow.holds Try.pinned (OpenSpec.upto fnExactNegNewSpec)

/-- 'laws.FnExactNegOk', WHERE WHAT IT READS IS OF BULK AT MOST 1048576: true; the input reads as it did. -/
def fnExactNegOkUptoRow : OpenClaim := { program := "ytgoebhbbgmjodaa", sum := "d2bfb925b40a122ff91e150a2d014b792b2beaf5846172bee627a4f67e42cf93", func := "loop.example/linkboy/laws.FnExactNegOk", spec := "fnExactNegOk", apart := false, narrowed := true }
def FnExactNegOkUptoSaid : Prop := fnExactNegOkUptoRow.holds Try.pinned (OpenSpec.upto fnExactNegOkSpec)

/-- 'laws.FnExactNegSay', WHERE WHAT IT READS IS OF BULK AT MOST 1048576: true; the input reads as it did. -/
def fnExactNegSayUptoRow : OpenClaim := { program := "ytgoebhbbgmjodaa", sum := "d2bfb925b40a122ff91e150a2d014b792b2beaf5846172bee627a4f67e42cf93", func := "loop.example/linkboy/laws.FnExactNegSay", spec := "fnExactNegSay", apart := false, narrowed := true }
def FnExactNegSayUptoSaid : Prop := fnExactNegSayUptoRow.holds Try.pinned (OpenSpec.upto fnExactNegSaySpec)

/-- 'laws.FnExactNegHear', WHERE WHAT IT READS IS OF BULK AT MOST 1048576: true; the input reads as it did. -/
def fnExactNegHearUptoRow : OpenClaim := { program := "ytgoebhbbgmjodaa", sum := "d2bfb925b40a122ff91e150a2d014b792b2beaf5846172bee627a4f67e42cf93", func := "loop.example/linkboy/laws.FnExactNegHear", spec := "fnExactNegHear", apart := false, narrowed := true }
def FnExactNegHearUptoSaid : Prop := fnExactNegHearUptoRow.holds Try.pinned (OpenSpec.upto fnExactNegHearSpec)

end Rows
end Go.Proofs.Ytgoebhbbgmjodaa
