/-
  DERIVED. GIVEN WITH THE SEED: THE CARDS: each row of YtfeaagjnfncdnaaDoorRows.lean that lists a variable, with what it lists TIED to the program's text (the seventh form; the later family's looks); each row that meets fmt, with fmt's text TOLD by the authors' own Lean function (tested against real Go, not proved from fmt's source: count such statements apart). THE CARD IS WHAT COUNTS. Prove the row's statement (the work); the ties are given (YtfeaagjnfncdnaaDoorTie.lean); close each card by the builder's one call (the guide's Derived/Test/ToyasCard.lean, 'card_holds'). Laid BY PROGRAM, IN A SANDBOX (cutbox-door.mjs). By AI agents, Wed Nov 11 2026. No macro, syntax, notation, axiom, sorry.
-/
import Derived.Test.YtfeaagjnfncdnaaDoorRows
import GoSem.ClaimSeven
namespace Go.Proofs.YtfeaagjnfncdnaaDoor
namespace Rows

/-- THE TIED CARD OF 'laws.FnExactFrmRead'. -/
def fnExactFrmReadCard : Claim7 := { stood := { row := fnExactFrmReadRow, standIns := [], harness := (true, "b2b7e897b15f7d4e8fa6de3fcecf008b400a5f0135e41170e46fb2d9857eb9bf"), looks := false }, kinds := [], alts := [], laidByText := true, laidKinds := [.sentinel, .sentinel, .sentinel], laidTests := true, laidLooks := .later }
def FnExactFrmReadCardSaid : Prop := Claim7.holds Tryd.pinned (.plain (OpenSpec.ofChange fnExactFrmReadSpec)) fnExactFrmReadCard

/-- THE SECOND FORM's CARD OF 'laws.FnExactFrmRead'. -/
def fnExactFrmReadUptoCard : Claim7 := { stood := { row := fnExactFrmReadUptoRow, standIns := [], harness := (true, "b2b7e897b15f7d4e8fa6de3fcecf008b400a5f0135e41170e46fb2d9857eb9bf"), looks := false }, kinds := [], alts := [], laidByText := true, laidKinds := [.sentinel, .sentinel, .sentinel], laidTests := true, laidLooks := .later }
def FnExactFrmReadUptoCardSaid : Prop := Claim7.holds Tryd.pinned (.plain (OpenSpec.upto fnExactFrmReadSpec)) fnExactFrmReadUptoCard
end Rows
end Go.Proofs.YtfeaagjnfncdnaaDoor
