/-
  DERIVED. GIVEN WITH THE SEED: THE CARDS: each row of YtgikochfffdpfaaGreatDoorRows.lean that lists a variable, with what it lists TIED to the program's text (the seventh form; the later family's looks); each row that meets fmt, with fmt's text TOLD by the authors' own Lean function (tested against real Go, not proved from fmt's source: count such statements apart). THE CARD IS WHAT COUNTS. Prove the row's statement (the work); the ties are given (YtgikochfffdpfaaGreatDoorTie.lean); close each card by the builder's one call (the guide's Derived/Test/ToyasCard.lean, 'card_holds'). Laid BY PROGRAM, IN A SANDBOX (cutbox-door.mjs). By AI agents, Wed Nov 11 2026. No macro, syntax, notation, axiom, sorry.
-/
import Derived.Test.YtgikochfffdpfaaGreatDoorRows
import GoSem.ClaimSeven
namespace Go.Proofs.YtgikochfffdpfaaGreatDoor
namespace Rows

/-- THE TIED CARD OF 'overspilllaw27.SheetoutPuts'. -/
def sheetoutPutsCard : Claim7 := { stood := { row := sheetoutPutsRow, standIns := [], harness := (true, "9d5181c812976aeef6e63045920dd3cade1d8215e0340c737d953b82eb3372d2"), looks := false }, kinds := [], alts := [], laidByText := true, laidKinds := [.data, .data, .data, .data, .data, .data, .data], laidTests := true, laidLooks := .later }
def SheetoutPutsCardSaid : Prop := Claim7.holds Tryz.pinned (.plain (OpenSpec.ofChange sheetoutPutsSpec)) sheetoutPutsCard

/-- THE TIED CARD OF 'overspilllaw27.SheetoutBack'. -/
def sheetoutBackCard : Claim7 := { stood := { row := sheetoutBackRow, standIns := [], harness := (true, "9d5181c812976aeef6e63045920dd3cade1d8215e0340c737d953b82eb3372d2"), looks := false }, kinds := [], alts := [], laidByText := true, laidKinds := [.data, .data, .data, .data, .data, .data, .data, .data, .data, .data, .data, .pinned], laidTests := true, laidLooks := .later }
def SheetoutBackCardSaid : Prop := Claim7.holds Tryz.pinned (.plain (OpenSpec.ofChange sheetoutBackSpec)) sheetoutBackCard

/-- THE TIED CARD OF 'overspilllaw27.SheetoutOnce'. -/
def sheetoutOnceCard : Claim7 := { stood := { row := sheetoutOnceRow, standIns := [], harness := (true, "9d5181c812976aeef6e63045920dd3cade1d8215e0340c737d953b82eb3372d2"), looks := false }, kinds := [], alts := [], laidByText := true, laidKinds := [.data, .data, .data, .data, .data, .data, .data, .data, .data, .data, .data, .pinned], laidTests := true, laidLooks := .later }
def SheetoutOnceCardSaid : Prop := Claim7.holds Tryz.pinned (.plain (OpenSpec.ofChange sheetoutOnceSpec)) sheetoutOnceCard

/-- THE SECOND FORM's CARD OF 'overspilllaw27.SheetoutPuts'. -/
def sheetoutPutsUptoCard : Claim7 := { stood := { row := sheetoutPutsUptoRow, standIns := [], harness := (true, "9d5181c812976aeef6e63045920dd3cade1d8215e0340c737d953b82eb3372d2"), looks := false }, kinds := [], alts := [], laidByText := true, laidKinds := [.data, .data, .data, .data, .data, .data, .data], laidTests := true, laidLooks := .later }
def SheetoutPutsUptoCardSaid : Prop := Claim7.holds Tryz.pinned (.plain (OpenSpec.upto sheetoutPutsSpec)) sheetoutPutsUptoCard

/-- THE SECOND FORM's CARD OF 'overspilllaw27.SheetoutBack'. -/
def sheetoutBackUptoCard : Claim7 := { stood := { row := sheetoutBackUptoRow, standIns := [], harness := (true, "9d5181c812976aeef6e63045920dd3cade1d8215e0340c737d953b82eb3372d2"), looks := false }, kinds := [], alts := [], laidByText := true, laidKinds := [.data, .data, .data, .data, .data, .data, .data, .data, .data, .data, .data, .pinned], laidTests := true, laidLooks := .later }
def SheetoutBackUptoCardSaid : Prop := Claim7.holds Tryz.pinned (.plain (OpenSpec.upto sheetoutBackSpec)) sheetoutBackUptoCard

/-- THE SECOND FORM's CARD OF 'overspilllaw27.SheetoutOnce'. -/
def sheetoutOnceUptoCard : Claim7 := { stood := { row := sheetoutOnceUptoRow, standIns := [], harness := (true, "9d5181c812976aeef6e63045920dd3cade1d8215e0340c737d953b82eb3372d2"), looks := false }, kinds := [], alts := [], laidByText := true, laidKinds := [.data, .data, .data, .data, .data, .data, .data, .data, .data, .data, .data, .pinned], laidTests := true, laidLooks := .later }
def SheetoutOnceUptoCardSaid : Prop := Claim7.holds Tryz.pinned (.plain (OpenSpec.upto sheetoutOnceSpec)) sheetoutOnceUptoCard
end Rows
end Go.Proofs.YtgikochfffdpfaaGreatDoor
