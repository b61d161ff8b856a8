/-
  DERIVED. GIVEN WITH THE SEED: THE CARDS: each row of YtnamlooifcpoaaaGreatDoorRows.lean that lists a variable, with what it lists TIED to the program's text (the seventh form; the later family's looks); each row that meets fmt, with fmt's text TOLD by the authors' own Lean function (tested against real Go, not proved from fmt's source: count such statements apart). THE CARD IS WHAT COUNTS. Prove the row's statement (the work); the ties are given (YtnamlooifcpoaaaGreatDoorTie.lean); close each card by the builder's one call (the guide's Derived/Test/ToyasCard.lean, 'card_holds'). Laid BY PROGRAM, IN A SANDBOX (cutbox-door.mjs). By AI agents, Wed Nov 11 2026. No macro, syntax, notation, axiom, sorry.
-/
import Derived.Test.YtnamlooifcpoaaaGreatDoorRows
import GoSem.ClaimSeven
namespace Go.Proofs.YtnamlooifcpoaaaGreatDoor
namespace Rows

/-- THE TIED CARD OF 'overspilllaw32.ScreensNext'. -/
def screensNextCard : Claim7 := { stood := { row := screensNextRow, standIns := [], harness := (true, "d825b6abfe4b41ce1546a3b2b0da1e10750520c55cd0761dd99e8a2be14d83c7"), looks := false }, kinds := [], alts := [], laidByText := true, laidKinds := [.data, .data, .data, .data, .data, .data], laidTests := true, laidLooks := .later }
def ScreensNextCardSaid : Prop := Claim7.holds Tryz.pinned (.plain (OpenSpec.ofChange screensNextSpec)) screensNextCard

/-- THE TIED CARD OF 'overspilllaw32.ScreensStill'. -/
def screensStillCard : Claim7 := { stood := { row := screensStillRow, standIns := [], harness := (true, "d825b6abfe4b41ce1546a3b2b0da1e10750520c55cd0761dd99e8a2be14d83c7"), looks := false }, kinds := [], alts := [], laidByText := true, laidKinds := [.data, .data, .data, .data, .data, .data], laidTests := true, laidLooks := .later }
def ScreensStillCardSaid : Prop := Claim7.holds Tryz.pinned (.plain (OpenSpec.ofChange screensStillSpec)) screensStillCard

/-- THE SECOND FORM's CARD OF 'overspilllaw32.ScreensNext'. -/
def screensNextUptoCard : Claim7 := { stood := { row := screensNextUptoRow, standIns := [], harness := (true, "d825b6abfe4b41ce1546a3b2b0da1e10750520c55cd0761dd99e8a2be14d83c7"), looks := false }, kinds := [], alts := [], laidByText := true, laidKinds := [.data, .data, .data, .data, .data, .data], laidTests := true, laidLooks := .later }
def ScreensNextUptoCardSaid : Prop := Claim7.holds Tryz.pinned (.plain (OpenSpec.upto screensNextSpec)) screensNextUptoCard

/-- THE SECOND FORM's CARD OF 'overspilllaw32.ScreensStill'. -/
def screensStillUptoCard : Claim7 := { stood := { row := screensStillUptoRow, standIns := [], harness := (true, "d825b6abfe4b41ce1546a3b2b0da1e10750520c55cd0761dd99e8a2be14d83c7"), looks := false }, kinds := [], alts := [], laidByText := true, laidKinds := [.data, .data, .data, .data, .data, .data], laidTests := true, laidLooks := .later }
def ScreensStillUptoCardSaid : Prop := Claim7.holds Tryz.pinned (.plain (OpenSpec.upto screensStillSpec)) screensStillUptoCard
end Rows
end Go.Proofs.YtnamlooifcpoaaaGreatDoor
