/-
  DERIVED. GIVEN WITH THE SEED: THE CARDS: each row of YtpgdngijmihafaaGreatDoorRows.lean that lists a variable, with what it lists TIED to the program's text (the seventh form; the later family's looks); each row that meets fmt, with fmt's text TOLD by the authors' own Lean function (tested against real Go, not proved from fmt's source: count such statements apart). THE CARD IS WHAT COUNTS. Prove the row's statement (the work); the ties are given (YtpgdngijmihafaaGreatDoorTie.lean); close each card by the builder's one call (the guide's Derived/Test/ToyasCard.lean, 'card_holds'). Laid BY PROGRAM, IN A SANDBOX (cutbox-door.mjs). By AI agents, Wed Nov 11 2026. No macro, syntax, notation, axiom, sorry.
-/
import Derived.Test.YtpgdngijmihafaaGreatDoorRows
import GoSem.ClaimSeven
namespace Go.Proofs.YtpgdngijmihafaaGreatDoor
namespace Rows

/-- THE TIED CARD OF 'overspilllaw26.SheetinTakes'. -/
def sheetinTakesCard : Claim7 := { stood := { row := sheetinTakesRow, standIns := [], harness := (true, "c17462cb2368e82a0a68f7265bf1452404148bec1d7ef1f50f5c75cc8765f2e7"), looks := false }, kinds := [], alts := [], laidByText := true, laidKinds := [.data, .data, .data, .data, .data, .data, .data, .data, .data, .data, .data, .pinned], laidTests := true, laidLooks := .later }
def SheetinTakesCardSaid : Prop := Claim7.holds Tryz.pinned (.plain (OpenSpec.ofChange sheetinTakesSpec)) sheetinTakesCard

/-- THE TIED CARD OF 'overspilllaw26.SheetinMay'. -/
def sheetinMayCard : Claim7 := { stood := { row := sheetinMayRow, standIns := [], harness := (true, "c17462cb2368e82a0a68f7265bf1452404148bec1d7ef1f50f5c75cc8765f2e7"), looks := false }, kinds := [], alts := [], laidByText := true, laidKinds := [.data, .data, .data, .data, .data, .data, .data, .data, .data, .data, .data, .pinned], laidTests := true, laidLooks := .later }
def SheetinMayCardSaid : Prop := Claim7.holds Tryz.pinned (.plain (OpenSpec.ofChange sheetinMaySpec)) sheetinMayCard

/-- THE SECOND FORM's CARD OF 'overspilllaw26.SheetinTakes'. -/
def sheetinTakesUptoCard : Claim7 := { stood := { row := sheetinTakesUptoRow, standIns := [], harness := (true, "c17462cb2368e82a0a68f7265bf1452404148bec1d7ef1f50f5c75cc8765f2e7"), looks := false }, kinds := [], alts := [], laidByText := true, laidKinds := [.data, .data, .data, .data, .data, .data, .data, .data, .data, .data, .data, .pinned], laidTests := true, laidLooks := .later }
def SheetinTakesUptoCardSaid : Prop := Claim7.holds Tryz.pinned (.plain (OpenSpec.upto sheetinTakesSpec)) sheetinTakesUptoCard

/-- THE SECOND FORM's CARD OF 'overspilllaw26.SheetinMay'. -/
def sheetinMayUptoCard : Claim7 := { stood := { row := sheetinMayUptoRow, standIns := [], harness := (true, "c17462cb2368e82a0a68f7265bf1452404148bec1d7ef1f50f5c75cc8765f2e7"), looks := false }, kinds := [], alts := [], laidByText := true, laidKinds := [.data, .data, .data, .data, .data, .data, .data, .data, .data, .data, .data, .pinned], laidTests := true, laidLooks := .later }
def SheetinMayUptoCardSaid : Prop := Claim7.holds Tryz.pinned (.plain (OpenSpec.upto sheetinMaySpec)) sheetinMayUptoCard
end Rows
end Go.Proofs.YtpgdngijmihafaaGreatDoor
