/-
  DERIVED. GIVEN WITH THE SEED: THE CARDS: each row of YtdnjefldijjgdaaGreatDoorRows.lean that lists a variable, with what it lists TIED to the program's text (the seventh form; the later family's looks); each row that meets fmt, with fmt's text TOLD by the authors' own Lean function (tested against real Go, not proved from fmt's source: count such statements apart). THE CARD IS WHAT COUNTS. Prove the row's statement (the work); the ties are given (YtdnjefldijjgdaaGreatDoorTie.lean); close each card by the builder's one call (the guide's Derived/Test/ToyasCard.lean, 'card_holds'). Laid BY PROGRAM, IN A SANDBOX (cutbox-door.mjs). By AI agents, Wed Nov 11 2026. No macro, syntax, notation, axiom, sorry.
-/
import Derived.Test.YtdnjefldijjgdaaGreatDoorRows
import GoSem.ClaimSeven
namespace Go.Proofs.YtdnjefldijjgdaaGreatDoor
namespace Rows

/-- THE TIED CARD OF 'overspilllaw31.RebuildCells'. -/
def rebuildCellsCard : Claim7 := { stood := { row := rebuildCellsRow, standIns := [], harness := (true, "0f4c4eb46527f001c98c6145e50bece6ae4e2eabac5fc4d89a2c0a0d32ee66b9"), looks := false }, kinds := [], alts := [], laidByText := true, laidKinds := [.data, .data, .data, .data, .data, .data], laidTests := true, laidLooks := .later }
def RebuildCellsCardSaid : Prop := Claim7.holds Tryz.pinned (.plain (OpenSpec.ofChange rebuildCellsSpec)) rebuildCellsCard

/-- THE SECOND FORM's CARD OF 'overspilllaw31.RebuildCells'. -/
def rebuildCellsUptoCard : Claim7 := { stood := { row := rebuildCellsUptoRow, standIns := [], harness := (true, "0f4c4eb46527f001c98c6145e50bece6ae4e2eabac5fc4d89a2c0a0d32ee66b9"), looks := false }, kinds := [], alts := [], laidByText := true, laidKinds := [.data, .data, .data, .data, .data, .data], laidTests := true, laidLooks := .later }
def RebuildCellsUptoCardSaid : Prop := Claim7.holds Tryz.pinned (.plain (OpenSpec.upto rebuildCellsSpec)) rebuildCellsUptoCard
end Rows
end Go.Proofs.YtdnjefldijjgdaaGreatDoor
