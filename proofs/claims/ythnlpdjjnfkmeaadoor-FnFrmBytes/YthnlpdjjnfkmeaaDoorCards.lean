/-
  DERIVED. GIVEN WITH THE SEED: THE CARDS: each row of YthnlpdjjnfkmeaaDoorRows.lean that lists a variable, with what it lists TIED to the program's text (the seventh form; the later family's looks); each row that meets fmt, with fmt's text TOLD by the authors' own Lean function (tested against real Go, not proved from fmt's source: count such statements apart). THE CARD IS WHAT COUNTS. Prove the row's statement (the work); the ties are given (YthnlpdjjnfkmeaaDoorTie.lean); close each card by the builder's one call (the guide's Derived/Test/ToyasCard.lean, 'card_holds'). Laid BY PROGRAM, IN A SANDBOX (cutbox-door.mjs). By AI agents, Wed Nov 11 2026. No macro, syntax, notation, axiom, sorry.
-/
import Derived.Test.YthnlpdjjnfkmeaaDoorRows
import GoSem.ClaimSeven
namespace Go.Proofs.YthnlpdjjnfkmeaaDoor
namespace Rows

/-- THE TIED CARD OF 'laws.FnFrmBytes'. -/
def fnFrmBytesCard : Claim7 := { stood := { row := fnFrmBytesRow, standIns := [], harness := (true, "0424065840ea30582e20a28e5eda844a978d246ba2dd2bd4e211939956f02708"), looks := true }, kinds := [], alts := [], laidByText := true, laidKinds := [.sentinel, .sentinel, .sentinel], laidTests := true, laidLooks := .later }
def FnFrmBytesCardSaid : Prop := Claim7.holds Tryd.pinned (.plain (OpenSpec.ofChange fnFrmBytesSpec)) fnFrmBytesCard

/-- THE TIED CARD OF 'laws.FnCrdLimit'. -/
def fnCrdLimitCard : Claim7 := { stood := { row := fnCrdLimitRow, standIns := [], harness := (true, "0424065840ea30582e20a28e5eda844a978d246ba2dd2bd4e211939956f02708"), looks := true }, kinds := [], alts := [], laidByText := true, laidKinds := [.sentinel], laidTests := true, laidLooks := .later }
def FnCrdLimitCardSaid : Prop := Claim7.holds Tryd.pinned (.plain (OpenSpec.ofChange fnCrdLimitSpec)) fnCrdLimitCard

/-- THE SECOND FORM's CARD OF 'laws.FnFrmBytes'. -/
def fnFrmBytesUptoCard : Claim7 := { stood := { row := fnFrmBytesUptoRow, standIns := [], harness := (true, "0424065840ea30582e20a28e5eda844a978d246ba2dd2bd4e211939956f02708"), looks := true }, kinds := [], alts := [], laidByText := true, laidKinds := [.sentinel, .sentinel, .sentinel], laidTests := true, laidLooks := .later }
def FnFrmBytesUptoCardSaid : Prop := Claim7.holds Tryd.pinned (.plain (OpenSpec.upto fnFrmBytesSpec)) fnFrmBytesUptoCard

/-- THE SECOND FORM's CARD OF 'laws.FnCrdLimit'. -/
def fnCrdLimitUptoCard : Claim7 := { stood := { row := fnCrdLimitUptoRow, standIns := [], harness := (true, "0424065840ea30582e20a28e5eda844a978d246ba2dd2bd4e211939956f02708"), looks := true }, kinds := [], alts := [], laidByText := true, laidKinds := [.sentinel], laidTests := true, laidLooks := .later }
def FnCrdLimitUptoCardSaid : Prop := Claim7.holds Tryd.pinned (.plain (OpenSpec.upto fnCrdLimitSpec)) fnCrdLimitUptoCard
end Rows
end Go.Proofs.YthnlpdjjnfkmeaaDoor
