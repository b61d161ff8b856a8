/-
  DERIVED. GIVEN WITH THE SEED: THE CARDS: each row of YtefoiijpgpjooaaDoorRows.lean that lists a variable, with what it lists TIED to the program's text (the seventh form; the later family's looks); each row that meets fmt, with fmt's text TOLD by the authors' own Lean function (tested against real Go, not proved from fmt's source: count such statements apart). THE CARD IS WHAT COUNTS. Prove the row's statement (the work); the ties are given (YtefoiijpgpjooaaDoorTie.lean); close each card by the builder's one call (the guide's Derived/Test/ToyasCard.lean, 'card_holds'). Laid BY PROGRAM, IN A SANDBOX (cutbox-door.mjs). By AI agents, Wed Nov 11 2026. No macro, syntax, notation, axiom, sorry.
-/
import Derived.Test.YtefoiijpgpjooaaDoorRows
import GoSem.ClaimSeven
namespace Go.Proofs.YtefoiijpgpjooaaDoor
namespace Rows

/-- THE TIED CARD OF 'overspilllaw11.ScanAt'. -/
def scanAtCard : Claim7 := { stood := { row := scanAtRow, standIns := [], harness := (true, "50ceec92eb4741fde70f310cc0fcffd647c5b899af369e3431d93249c8abace8"), looks := false }, kinds := [], alts := [], laidByText := true, laidKinds := [.data], laidTests := true, laidLooks := .later }
def ScanAtCardSaid : Prop := Claim7.holds Tryd.pinned (.plain (OpenSpec.ofChange scanAtSpec)) scanAtCard

/-- THE TIED CARD OF 'overspilllaw11.ScanTurns'. -/
def scanTurnsCard : Claim7 := { stood := { row := scanTurnsRow, standIns := [], harness := (true, "50ceec92eb4741fde70f310cc0fcffd647c5b899af369e3431d93249c8abace8"), looks := false }, kinds := [], alts := [], laidByText := true, laidKinds := [.data], laidTests := true, laidLooks := .later }
def ScanTurnsCardSaid : Prop := Claim7.holds Tryd.pinned (.plain (OpenSpec.ofChange scanTurnsSpec)) scanTurnsCard

/-- THE TIED CARD OF 'overspilllaw11.ScanLater'. -/
def scanLaterCard : Claim7 := { stood := { row := scanLaterRow, standIns := [], harness := (true, "50ceec92eb4741fde70f310cc0fcffd647c5b899af369e3431d93249c8abace8"), looks := false }, kinds := [], alts := [], laidByText := true, laidKinds := [.data], laidTests := true, laidLooks := .later }
def ScanLaterCardSaid : Prop := Claim7.holds Tryd.pinned (.plain (OpenSpec.ofChange scanLaterSpec)) scanLaterCard

/-- THE SECOND FORM's CARD OF 'overspilllaw11.ScanAt'. -/
def scanAtUptoCard : Claim7 := { stood := { row := scanAtUptoRow, standIns := [], harness := (true, "50ceec92eb4741fde70f310cc0fcffd647c5b899af369e3431d93249c8abace8"), looks := false }, kinds := [], alts := [], laidByText := true, laidKinds := [.data], laidTests := true, laidLooks := .later }
def ScanAtUptoCardSaid : Prop := Claim7.holds Tryd.pinned (.plain (OpenSpec.upto scanAtSpec)) scanAtUptoCard

/-- THE SECOND FORM's CARD OF 'overspilllaw11.ScanTurns'. -/
def scanTurnsUptoCard : Claim7 := { stood := { row := scanTurnsUptoRow, standIns := [], harness := (true, "50ceec92eb4741fde70f310cc0fcffd647c5b899af369e3431d93249c8abace8"), looks := false }, kinds := [], alts := [], laidByText := true, laidKinds := [.data], laidTests := true, laidLooks := .later }
def ScanTurnsUptoCardSaid : Prop := Claim7.holds Tryd.pinned (.plain (OpenSpec.upto scanTurnsSpec)) scanTurnsUptoCard

/-- THE SECOND FORM's CARD OF 'overspilllaw11.ScanLater'. -/
def scanLaterUptoCard : Claim7 := { stood := { row := scanLaterUptoRow, standIns := [], harness := (true, "50ceec92eb4741fde70f310cc0fcffd647c5b899af369e3431d93249c8abace8"), looks := false }, kinds := [], alts := [], laidByText := true, laidKinds := [.data], laidTests := true, laidLooks := .later }
def ScanLaterUptoCardSaid : Prop := Claim7.holds Tryd.pinned (.plain (OpenSpec.upto scanLaterSpec)) scanLaterUptoCard
end Rows
end Go.Proofs.YtefoiijpgpjooaaDoor
