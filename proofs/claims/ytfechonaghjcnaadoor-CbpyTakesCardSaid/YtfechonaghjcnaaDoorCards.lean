/-
  DERIVED. GIVEN WITH THE SEED: THE CARDS: each row of YtfechonaghjcnaaDoorRows.lean that lists a variable, with what it lists TIED to the program's text (the seventh form; the later family's looks); each row that meets fmt, with fmt's text TOLD by the authors' own Lean function (tested against real Go, not proved from fmt's source: count such statements apart). THE CARD IS WHAT COUNTS. Prove the row's statement (the work); the ties are given (YtfechonaghjcnaaDoorTie.lean); close each card by the builder's one call (the guide's Derived/Test/ToyasCard.lean, 'card_holds'). Laid BY PROGRAM, IN A SANDBOX (cutbox-door.mjs). By AI agents, Wed Nov 11 2026. No macro, syntax, notation, axiom, sorry.
-/
import Derived.Test.YtfechonaghjcnaaDoorRows
import GoSem.ClaimSeven
namespace Go.Proofs.YtfechonaghjcnaaDoor
namespace Rows

/-- THE TIED CARD OF 'overspilllaw07.CbpyRows'. -/
def cbpyRowsCard : Claim7 := { stood := { row := cbpyRowsRow, standIns := [], harness := (true, "91ffedbb2a8aa4492e80d4227110cce52e95c3d21e04f3a65f58890c8b002233"), looks := false }, kinds := [], alts := [], laidByText := true, laidKinds := [.data, .data, .pinned], laidTests := true, laidLooks := .later }
def CbpyRowsCardSaid : Prop := Claim7.holds Tryd.pinned (.plain (OpenSpec.ofChange cbpyRowsSpec)) cbpyRowsCard

/-- THE TIED CARD OF 'overspilllaw07.CbpyTakes'. -/
def cbpyTakesCard : Claim7 := { stood := { row := cbpyTakesRow, standIns := [], harness := (true, "91ffedbb2a8aa4492e80d4227110cce52e95c3d21e04f3a65f58890c8b002233"), looks := false }, kinds := [], alts := [], laidByText := true, laidKinds := [.data, .data, .pinned], laidTests := true, laidLooks := .later }
def CbpyTakesCardSaid : Prop := Claim7.holds Tryd.pinned (.plain (OpenSpec.ofChange cbpyTakesSpec)) cbpyTakesCard

/-- THE TIED CARD OF 'overspilllaw07.CbpyBack'. -/
def cbpyBackCard : Claim7 := { stood := { row := cbpyBackRow, standIns := [], harness := (true, "91ffedbb2a8aa4492e80d4227110cce52e95c3d21e04f3a65f58890c8b002233"), looks := false }, kinds := [], alts := [], laidByText := true, laidKinds := [.data, .data, .pinned], laidTests := true, laidLooks := .later }
def CbpyBackCardSaid : Prop := Claim7.holds Tryd.pinned (.plain (OpenSpec.ofChange cbpyBackSpec)) cbpyBackCard

/-- THE SECOND FORM's CARD OF 'overspilllaw07.CbpyRows'. -/
def cbpyRowsUptoCard : Claim7 := { stood := { row := cbpyRowsUptoRow, standIns := [], harness := (true, "91ffedbb2a8aa4492e80d4227110cce52e95c3d21e04f3a65f58890c8b002233"), looks := false }, kinds := [], alts := [], laidByText := true, laidKinds := [.data, .data, .pinned], laidTests := true, laidLooks := .later }
def CbpyRowsUptoCardSaid : Prop := Claim7.holds Tryd.pinned (.plain (OpenSpec.upto cbpyRowsSpec)) cbpyRowsUptoCard

/-- THE SECOND FORM's CARD OF 'overspilllaw07.CbpyTakes'. -/
def cbpyTakesUptoCard : Claim7 := { stood := { row := cbpyTakesUptoRow, standIns := [], harness := (true, "91ffedbb2a8aa4492e80d4227110cce52e95c3d21e04f3a65f58890c8b002233"), looks := false }, kinds := [], alts := [], laidByText := true, laidKinds := [.data, .data, .pinned], laidTests := true, laidLooks := .later }
def CbpyTakesUptoCardSaid : Prop := Claim7.holds Tryd.pinned (.plain (OpenSpec.upto cbpyTakesSpec)) cbpyTakesUptoCard

/-- THE SECOND FORM's CARD OF 'overspilllaw07.CbpyBack'. -/
def cbpyBackUptoCard : Claim7 := { stood := { row := cbpyBackUptoRow, standIns := [], harness := (true, "91ffedbb2a8aa4492e80d4227110cce52e95c3d21e04f3a65f58890c8b002233"), looks := false }, kinds := [], alts := [], laidByText := true, laidKinds := [.data, .data, .pinned], laidTests := true, laidLooks := .later }
def CbpyBackUptoCardSaid : Prop := Claim7.holds Tryd.pinned (.plain (OpenSpec.upto cbpyBackSpec)) cbpyBackUptoCard
end Rows
end Go.Proofs.YtfechonaghjcnaaDoor
