/-
  DERIVED. GIVEN WITH THE SEED: THE CARDS: each row of YtobgeaghnljamaaDoorRows.lean that lists a variable, with what it lists TIED to the program's text (the seventh form; the later family's looks); each row that meets fmt, with fmt's text TOLD by the authors' own Lean function (tested against real Go, not proved from fmt's source: count such statements apart). THE CARD IS WHAT COUNTS. Prove the row's statement (the work); the ties are given (YtobgeaghnljamaaDoorTie.lean); close each card by the builder's one call (the guide's Derived/Test/ToyasCard.lean, 'card_holds'). Laid BY PROGRAM, IN A SANDBOX (cutbox-door.mjs). By AI agents, Wed Nov 11 2026. No macro, syntax, notation, axiom, sorry.
-/
import Derived.Test.YtobgeaghnljamaaDoorRows
import GoSem.ClaimSeven
namespace Go.Proofs.YtobgeaghnljamaaDoor
namespace Rows

/-- THE TIED CARD OF 'overspilllaw09.TcoefRows'. -/
def tcoefRowsCard : Claim7 := { stood := { row := tcoefRowsRow, standIns := [], harness := (true, "aeabe4a4c9ccf32467037e4cc394331856f0170b7650aa7f4de9d514a47f3521"), looks := false }, kinds := [], alts := [], laidByText := true, laidKinds := [.data, .data, .data], laidTests := true, laidLooks := .later }
def TcoefRowsCardSaid : Prop := Claim7.holds Tryd.pinned (.plain (OpenSpec.ofChange tcoefRowsSpec)) tcoefRowsCard

/-- THE TIED CARD OF 'overspilllaw09.TcoefTakes'. -/
def tcoefTakesCard : Claim7 := { stood := { row := tcoefTakesRow, standIns := [], harness := (true, "aeabe4a4c9ccf32467037e4cc394331856f0170b7650aa7f4de9d514a47f3521"), looks := false }, kinds := [], alts := [], laidByText := true, laidKinds := [.data, .data, .data], laidTests := true, laidLooks := .later }
def TcoefTakesCardSaid : Prop := Claim7.holds Tryd.pinned (.plain (OpenSpec.ofChange tcoefTakesSpec)) tcoefTakesCard

/-- THE TIED CARD OF 'overspilllaw09.TcoefBack'. -/
def tcoefBackCard : Claim7 := { stood := { row := tcoefBackRow, standIns := [], harness := (true, "aeabe4a4c9ccf32467037e4cc394331856f0170b7650aa7f4de9d514a47f3521"), looks := false }, kinds := [], alts := [], laidByText := true, laidKinds := [.data, .data, .data], laidTests := true, laidLooks := .later }
def TcoefBackCardSaid : Prop := Claim7.holds Tryd.pinned (.plain (OpenSpec.ofChange tcoefBackSpec)) tcoefBackCard

/-- THE SECOND FORM's CARD OF 'overspilllaw09.TcoefRows'. -/
def tcoefRowsUptoCard : Claim7 := { stood := { row := tcoefRowsUptoRow, standIns := [], harness := (true, "aeabe4a4c9ccf32467037e4cc394331856f0170b7650aa7f4de9d514a47f3521"), looks := false }, kinds := [], alts := [], laidByText := true, laidKinds := [.data, .data, .data], laidTests := true, laidLooks := .later }
def TcoefRowsUptoCardSaid : Prop := Claim7.holds Tryd.pinned (.plain (OpenSpec.upto tcoefRowsSpec)) tcoefRowsUptoCard

/-- THE SECOND FORM's CARD OF 'overspilllaw09.TcoefTakes'. -/
def tcoefTakesUptoCard : Claim7 := { stood := { row := tcoefTakesUptoRow, standIns := [], harness := (true, "aeabe4a4c9ccf32467037e4cc394331856f0170b7650aa7f4de9d514a47f3521"), looks := false }, kinds := [], alts := [], laidByText := true, laidKinds := [.data, .data, .data], laidTests := true, laidLooks := .later }
def TcoefTakesUptoCardSaid : Prop := Claim7.holds Tryd.pinned (.plain (OpenSpec.upto tcoefTakesSpec)) tcoefTakesUptoCard

/-- THE SECOND FORM's CARD OF 'overspilllaw09.TcoefBack'. -/
def tcoefBackUptoCard : Claim7 := { stood := { row := tcoefBackUptoRow, standIns := [], harness := (true, "aeabe4a4c9ccf32467037e4cc394331856f0170b7650aa7f4de9d514a47f3521"), looks := false }, kinds := [], alts := [], laidByText := true, laidKinds := [.data, .data, .data], laidTests := true, laidLooks := .later }
def TcoefBackUptoCardSaid : Prop := Claim7.holds Tryd.pinned (.plain (OpenSpec.upto tcoefBackSpec)) tcoefBackUptoCard
end Rows
end Go.Proofs.YtobgeaghnljamaaDoor
