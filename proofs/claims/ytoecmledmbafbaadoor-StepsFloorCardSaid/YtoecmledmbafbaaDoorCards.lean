/-
  DERIVED. GIVEN WITH THE SEED: THE CARDS: each row of YtoecmledmbafbaaDoorRows.lean that lists a variable, with what it lists TIED to the program's text (the seventh form; the later family's looks); each row that meets fmt, with fmt's text TOLD by the authors' own Lean function (tested against real Go, not proved from fmt's source: count such statements apart). THE CARD IS WHAT COUNTS. Prove the row's statement (the work); the ties are given (YtoecmledmbafbaaDoorTie.lean); close each card by the builder's one call (the guide's Derived/Test/ToyasCard.lean, 'card_holds'). Laid BY PROGRAM, IN A SANDBOX (cutbox-door.mjs). By AI agents, Wed Nov 11 2026. No macro, syntax, notation, axiom, sorry.
-/
import Derived.Test.YtoecmledmbafbaaDoorRows
import GoSem.ClaimSeven
namespace Go.Proofs.YtoecmledmbafbaaDoor
namespace Rows

/-- THE TIED CARD OF 'overspilllaw20.StepsRows'. -/
def stepsRowsCard : Claim7 := { stood := { row := stepsRowsRow, standIns := [], harness := (true, "d82c6f91bce94cc69a99ae8a05f43b190f38de2db8006d915d3e983331cb2f1d"), looks := false }, kinds := [], alts := [], laidByText := true, laidKinds := [.data], laidTests := true, laidLooks := .later }
def StepsRowsCardSaid : Prop := Claim7.holds Tryd.pinned (.plain (OpenSpec.ofChange stepsRowsSpec)) stepsRowsCard

/-- THE TIED CARD OF 'overspilllaw20.StepsNext'. -/
def stepsNextCard : Claim7 := { stood := { row := stepsNextRow, standIns := [], harness := (true, "d82c6f91bce94cc69a99ae8a05f43b190f38de2db8006d915d3e983331cb2f1d"), looks := false }, kinds := [], alts := [], laidByText := true, laidKinds := [.data], laidTests := true, laidLooks := .later }
def StepsNextCardSaid : Prop := Claim7.holds Tryd.pinned (.plain (OpenSpec.ofChange stepsNextSpec)) stepsNextCard

/-- THE TIED CARD OF 'overspilllaw20.StepsFloor'. -/
def stepsFloorCard : Claim7 := { stood := { row := stepsFloorRow, standIns := [], harness := (true, "d82c6f91bce94cc69a99ae8a05f43b190f38de2db8006d915d3e983331cb2f1d"), looks := false }, kinds := [], alts := [], laidByText := true, laidKinds := [.data], laidTests := true, laidLooks := .later }
def StepsFloorCardSaid : Prop := Claim7.holds Tryd.pinned (.plain (OpenSpec.ofChange stepsFloorSpec)) stepsFloorCard

/-- THE SECOND FORM's CARD OF 'overspilllaw20.StepsRows'. -/
def stepsRowsUptoCard : Claim7 := { stood := { row := stepsRowsUptoRow, standIns := [], harness := (true, "d82c6f91bce94cc69a99ae8a05f43b190f38de2db8006d915d3e983331cb2f1d"), looks := false }, kinds := [], alts := [], laidByText := true, laidKinds := [.data], laidTests := true, laidLooks := .later }
def StepsRowsUptoCardSaid : Prop := Claim7.holds Tryd.pinned (.plain (OpenSpec.upto stepsRowsSpec)) stepsRowsUptoCard

/-- THE SECOND FORM's CARD OF 'overspilllaw20.StepsNext'. -/
def stepsNextUptoCard : Claim7 := { stood := { row := stepsNextUptoRow, standIns := [], harness := (true, "d82c6f91bce94cc69a99ae8a05f43b190f38de2db8006d915d3e983331cb2f1d"), looks := false }, kinds := [], alts := [], laidByText := true, laidKinds := [.data], laidTests := true, laidLooks := .later }
def StepsNextUptoCardSaid : Prop := Claim7.holds Tryd.pinned (.plain (OpenSpec.upto stepsNextSpec)) stepsNextUptoCard

/-- THE SECOND FORM's CARD OF 'overspilllaw20.StepsFloor'. -/
def stepsFloorUptoCard : Claim7 := { stood := { row := stepsFloorUptoRow, standIns := [], harness := (true, "d82c6f91bce94cc69a99ae8a05f43b190f38de2db8006d915d3e983331cb2f1d"), looks := false }, kinds := [], alts := [], laidByText := true, laidKinds := [.data], laidTests := true, laidLooks := .later }
def StepsFloorUptoCardSaid : Prop := Claim7.holds Tryd.pinned (.plain (OpenSpec.upto stepsFloorSpec)) stepsFloorUptoCard
end Rows
end Go.Proofs.YtoecmledmbafbaaDoor
