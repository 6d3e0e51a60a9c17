/-
  DERIVED. GIVEN WITH THE SEED: THE CARDS: each row of YtejafihfbncaoaaDoorRows.lean that lists a variable, with what it lists TIED to the program's text (the seventh form; the later family's looks); each row that meets fmt, with fmt's text TOLD by the authors' own Lean function (tested against real Go, not proved from fmt's source: count such statements apart). THE CARD IS WHAT COUNTS. Prove the row's statement (the work); the ties are given (YtejafihfbncaoaaDoorTie.lean); close each card by the builder's one call (the guide's Derived/Test/ToyasCard.lean, 'card_holds'). Laid BY PROGRAM, IN A SANDBOX (cutbox-door.mjs). By AI agents, Wed Nov 11 2026. No macro, syntax, notation, axiom, sorry.
-/
import Derived.Test.YtejafihfbncaoaaDoorRows
import GoSem.ClaimSeven
namespace Go.Proofs.YtejafihfbncaoaaDoor
namespace Rows

/-- THE TIED CARD OF 'laws.FnCrdSend'. -/
def fnCrdSendCard : Claim7 := { stood := { row := fnCrdSendRow, standIns := [], harness := (true, "cbdebce1e4de29fe4420b7bb4e52aeda5971402f0b2322cfca687dde3fd02d13"), looks := true }, kinds := [], alts := [], laidByText := true, laidKinds := [.sentinel], laidTests := true, laidLooks := .later }
def FnCrdSendCardSaid : Prop := Claim7.holds Tryd.pinned (.plain (OpenSpec.ofChange fnCrdSendSpec)) fnCrdSendCard

/-- THE TIED CARD OF 'laws.FnCrdTake'. -/
def fnCrdTakeCard : Claim7 := { stood := { row := fnCrdTakeRow, standIns := [], harness := (true, "cbdebce1e4de29fe4420b7bb4e52aeda5971402f0b2322cfca687dde3fd02d13"), looks := true }, kinds := [], alts := [], laidByText := true, laidKinds := [.sentinel, .sentinel], laidTests := true, laidLooks := .later }
def FnCrdTakeCardSaid : Prop := Claim7.holds Tryd.pinned (.plain (OpenSpec.ofChange fnCrdTakeSpec)) fnCrdTakeCard

/-- THE TIED CARD OF 'laws.FnCrdGrant'. -/
def fnCrdGrantCard : Claim7 := { stood := { row := fnCrdGrantRow, standIns := [], harness := (true, "cbdebce1e4de29fe4420b7bb4e52aeda5971402f0b2322cfca687dde3fd02d13"), looks := true }, kinds := [], alts := [], laidByText := true, laidKinds := [.sentinel], laidTests := true, laidLooks := .later }
def FnCrdGrantCardSaid : Prop := Claim7.holds Tryd.pinned (.plain (OpenSpec.ofChange fnCrdGrantSpec)) fnCrdGrantCard

/-- THE TIED CARD OF 'laws.FnCrdHear'. -/
def fnCrdHearCard : Claim7 := { stood := { row := fnCrdHearRow, standIns := [], harness := (true, "cbdebce1e4de29fe4420b7bb4e52aeda5971402f0b2322cfca687dde3fd02d13"), looks := true }, kinds := [], alts := [], laidByText := true, laidKinds := [.sentinel], laidTests := true, laidLooks := .later }
def FnCrdHearCardSaid : Prop := Claim7.holds Tryd.pinned (.plain (OpenSpec.ofChange fnCrdHearSpec)) fnCrdHearCard

/-- THE SECOND FORM's CARD OF 'laws.FnCrdSend'. -/
def fnCrdSendUptoCard : Claim7 := { stood := { row := fnCrdSendUptoRow, standIns := [], harness := (true, "cbdebce1e4de29fe4420b7bb4e52aeda5971402f0b2322cfca687dde3fd02d13"), looks := true }, kinds := [], alts := [], laidByText := true, laidKinds := [.sentinel], laidTests := true, laidLooks := .later }
def FnCrdSendUptoCardSaid : Prop := Claim7.holds Tryd.pinned (.plain (OpenSpec.upto fnCrdSendSpec)) fnCrdSendUptoCard

/-- THE SECOND FORM's CARD OF 'laws.FnCrdTake'. -/
def fnCrdTakeUptoCard : Claim7 := { stood := { row := fnCrdTakeUptoRow, standIns := [], harness := (true, "cbdebce1e4de29fe4420b7bb4e52aeda5971402f0b2322cfca687dde3fd02d13"), looks := true }, kinds := [], alts := [], laidByText := true, laidKinds := [.sentinel, .sentinel], laidTests := true, laidLooks := .later }
def FnCrdTakeUptoCardSaid : Prop := Claim7.holds Tryd.pinned (.plain (OpenSpec.upto fnCrdTakeSpec)) fnCrdTakeUptoCard

/-- THE SECOND FORM's CARD OF 'laws.FnCrdGrant'. -/
def fnCrdGrantUptoCard : Claim7 := { stood := { row := fnCrdGrantUptoRow, standIns := [], harness := (true, "cbdebce1e4de29fe4420b7bb4e52aeda5971402f0b2322cfca687dde3fd02d13"), looks := true }, kinds := [], alts := [], laidByText := true, laidKinds := [.sentinel], laidTests := true, laidLooks := .later }
def FnCrdGrantUptoCardSaid : Prop := Claim7.holds Tryd.pinned (.plain (OpenSpec.upto fnCrdGrantSpec)) fnCrdGrantUptoCard

/-- THE SECOND FORM's CARD OF 'laws.FnCrdHear'. -/
def fnCrdHearUptoCard : Claim7 := { stood := { row := fnCrdHearUptoRow, standIns := [], harness := (true, "cbdebce1e4de29fe4420b7bb4e52aeda5971402f0b2322cfca687dde3fd02d13"), looks := true }, kinds := [], alts := [], laidByText := true, laidKinds := [.sentinel], laidTests := true, laidLooks := .later }
def FnCrdHearUptoCardSaid : Prop := Claim7.holds Tryd.pinned (.plain (OpenSpec.upto fnCrdHearSpec)) fnCrdHearUptoCard
end Rows
end Go.Proofs.YtejafihfbncaoaaDoor
