/-
  No cell of these rows narrows 'for every input' (looked for: loops, veiled, ifaces, maps, wideKeys, modest, calm, conditions, laid).
  DERIVED. THE GIVEN ROWS OF THIS SEAT. 2 by the template 'for every input the law returns true; each argument reads behind the call as it read before'; 0 by the template 'total and deterministic' (their statements: YtfeaagjnfncdnaaTotals.lean).
  GIVEN WITH THE SEED: the statements are not yours to turn. If you find one false, say at which input.
  Laid BY PROGRAM, IN A SANDBOX (cutbox-rows.mjs): the forced cells as the released guide's own fill.sh prints them over the translation 39d6f187dcc4d180… (all of the seat's roots in one cut). By AI agents, Wed Nov 11 2026. No macro, syntax, notation, axiom, sorry.
-/
import Derived.Test.YtfeaagjnfncdnaaChecked
import GoSem.Claim
import GoSem.ClaimJoined
import GoSem.ClaimMapViews
import Derived.JoinedTies
import Derived.KernelRfl
namespace Go.Proofs.Ytfeaagjnfncdnaa
/- THE CELL 'sum', in the pinned program and in every row, IS THE sha256 OF THE DUMP (.gsa) THAT YtfeaagjnfncdnaaProg.lean LOADS. Nothing in Lean hashes anything: it is a label: what it is worth is what the hold of that sum in a sandbox is worth. -/
noncomputable def Try.pinned : Pinned := { name := "ytfeaagjnfncdnaa", sum := "39d6f187dcc4d1803613f0fd19dbb50f080668fc10f5b9583ed4a4797b185e24", checked := Try.checked }
namespace Rows
def none {H : Type} : Left H := { results := [], args := [] }

/-- 'laws.FnExactFrmOk': WHATEVER THE INPUT: true; the input reads as it did. -/
def fnExactFrmOkSpec : ChangeSpec := { name := "fnExactFrmOk", fn := fun _ => fun
  | [d] => { results := [.lit (.bool true)], args := [d] }
  | _ => none }
def fnExactFrmOkRow : OpenClaim := { program := "ytfeaagjnfncdnaa", sum := "39d6f187dcc4d1803613f0fd19dbb50f080668fc10f5b9583ed4a4797b185e24", func := "loop.example/linkboy/laws.FnExactFrmOk", spec := "fnExactFrmOk", unfollowed := true, recurses := true, apart := false }
def FnExactFrmOkSaid : Prop := fnExactFrmOkRow.holds Try.pinned (OpenSpec.ofChange fnExactFrmOkSpec)

/-- ITS FALSE NEIGHBOUR: 'it returns false'. Refute it at one input. -/
def fnExactFrmOkWrong : ChangeSpec := { name := "fnExactFrmOk", fn := fun _ => fun
  | [d] => { results := [.lit (.bool false)], args := [d] }
  | _ => none }
def FnExactFrmOkWrongFalsely : Prop := fnExactFrmOkRow.holds Try.pinned (OpenSpec.ofChange fnExactFrmOkWrong)

/-- 'laws.FnExactFrmBytes': WHATEVER THE INPUT: true; the input reads as it did. -/
def fnExactFrmBytesSpec : ChangeSpec := { name := "fnExactFrmBytes", fn := fun _ => fun
  | [d] => { results := [.lit (.bool true)], args := [d] }
  | _ => none }
def fnExactFrmBytesRow : OpenClaim := { program := "ytfeaagjnfncdnaa", sum := "39d6f187dcc4d1803613f0fd19dbb50f080668fc10f5b9583ed4a4797b185e24", func := "loop.example/linkboy/laws.FnExactFrmBytes", spec := "fnExactFrmBytes", unfollowed := true, recurses := true, apart := false }
def FnExactFrmBytesSaid : Prop := fnExactFrmBytesRow.holds Try.pinned (OpenSpec.ofChange fnExactFrmBytesSpec)

/-- ITS FALSE NEIGHBOUR: 'it returns false'. Refute it at one input. -/
def fnExactFrmBytesWrong : ChangeSpec := { name := "fnExactFrmBytes", fn := fun _ => fun
  | [d] => { results := [.lit (.bool false)], args := [d] }
  | _ => none }
def FnExactFrmBytesWrongFalsely : Prop := fnExactFrmBytesRow.holds Try.pinned (OpenSpec.ofChange fnExactFrmBytesWrong)

/- THE SECOND FORM. 'bulk': how many values and letters a reading holds, each counted each time it is reached (what is shared counts as often as it is met; a slice's spare places count too). A statement '..UptoSaid' is the law's where the arguments, and the package variables that the reading takes, are together of bulk at most 1048576: NARROWER than '..Said'. Prove '..Said' where nothing that the law and all that it calls make is longer than what came in: it says more and counts as full. Else prove '..UptoSaid'. A law counts once. -/
mutual
def uptoBulk {H : Type} : DataW H → Nat
  | .lit (.string bytes) => bytes.length + 1
  | .lit _ => 1
  | .nil => 1
  | .ptr d => uptoBulk d + 1
  | .slice elems spare => uptoBulkAll elems + uptoBulkAll spare + 1
  | .agg parts => uptoBulkAll parts + 1
  | .iface _ d => uptoBulk d + 1
  | .map entries => uptoBulkEntries entries + 1
  | .held _ => 1
def uptoBulkAll {H : Type} : List (DataW H) → Nat
  | [] => 0
  | d :: r => uptoBulk d + uptoBulkAll r
def uptoBulkEntries {H : Type} : List (Lit × DataW H) → Nat
  | [] => 0
  | x :: r => uptoBulkEntry x + uptoBulkEntries r
def uptoBulkEntry {H : Type} : Lit × DataW H → Nat
  | (.string bytes, d) => bytes.length + uptoBulk d + 1
  | (_, d) => uptoBulk d + 1
 end
def uptoSmall : (H : Type) → List (DataW H) → Bool := fun _ ds => decide (uptoBulkAll ds ≤ 1048576)
def OpenSpec.upto (s : _root_.Go.ChangeSpec) : _root_.Go.OpenSpec := { _root_.Go.OpenSpec.ofChange s with cond := some uptoSmall }

/-- 'laws.FnExactFrmOk', WHERE WHAT IT READS IS OF BULK AT MOST 1048576: true; the input reads as it did. -/
def fnExactFrmOkUptoRow : OpenClaim := { program := "ytfeaagjnfncdnaa", sum := "39d6f187dcc4d1803613f0fd19dbb50f080668fc10f5b9583ed4a4797b185e24", func := "loop.example/linkboy/laws.FnExactFrmOk", spec := "fnExactFrmOk", unfollowed := true, recurses := true, apart := false, narrowed := true }
def FnExactFrmOkUptoSaid : Prop := fnExactFrmOkUptoRow.holds Try.pinned (OpenSpec.upto fnExactFrmOkSpec)

/-- 'laws.FnExactFrmBytes', WHERE WHAT IT READS IS OF BULK AT MOST 1048576: true; the input reads as it did. -/
def fnExactFrmBytesUptoRow : OpenClaim := { program := "ytfeaagjnfncdnaa", sum := "39d6f187dcc4d1803613f0fd19dbb50f080668fc10f5b9583ed4a4797b185e24", func := "loop.example/linkboy/laws.FnExactFrmBytes", spec := "fnExactFrmBytes", unfollowed := true, recurses := true, apart := false, narrowed := true }
def FnExactFrmBytesUptoSaid : Prop := fnExactFrmBytesUptoRow.holds Try.pinned (OpenSpec.upto fnExactFrmBytesSpec)

end Rows
end Go.Proofs.Ytfeaagjnfncdnaa
