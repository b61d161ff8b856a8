/-
  DERIVED. GIVEN WITH THE SEED: THE CARDS: each row of YtndbeacoaimdgaaDoorRows.lean that lists a variable, with what it lists TIED to the program's text (the seventh form; the later family's looks); each row that meets fmt, with fmt's text TOLD by the authors' own Lean function (tested against real Go, not proved from fmt's source: count such statements apart). THE CARD IS WHAT COUNTS. Prove the row's statement (the work); the ties are given (YtndbeacoaimdgaaDoorTie.lean); close each card by the builder's one call (the guide's Derived/Test/ToyasCard.lean, 'card_holds'). Laid BY PROGRAM, IN A SANDBOX (cutbox-door.mjs). By AI agents, Wed Nov 11 2026. No macro, syntax, notation, axiom, sorry.
-/
import Derived.Test.YtndbeacoaimdgaaDoorRows
import GoSem.ClaimSeven
namespace Go.Proofs.YtndbeacoaimdgaaDoor
namespace Rows

/-- THE TIED CARD OF 'overspilllaw30.QuantsOf'. -/
def quantsOfCard : Claim7 := { stood := { row := quantsOfRow, standIns := [], harness := (true, "2349c01680b8c5c4cbcddfee2926d8701207fe843b123ee9e938dc920cedc01d"), looks := false }, kinds := [], alts := [], laidByText := true, laidKinds := [.data, .data, .data, .data], laidTests := true, laidLooks := .later }
def QuantsOfCardSaid : Prop := Claim7.holds Tryd.pinned (.plain (OpenSpec.ofChange quantsOfSpec)) quantsOfCard

/-- THE TIED CARD OF 'overspilllaw30.QuantsGo'. -/
def quantsGoCard : Claim7 := { stood := { row := quantsGoRow, standIns := [], harness := (true, "2349c01680b8c5c4cbcddfee2926d8701207fe843b123ee9e938dc920cedc01d"), looks := false }, kinds := [], alts := [], laidByText := true, laidKinds := [.data, .data, .data, .data], laidTests := true, laidLooks := .later }
def QuantsGoCardSaid : Prop := Claim7.holds Tryd.pinned (.plain (OpenSpec.ofChange quantsGoSpec)) quantsGoCard

/-- THE SECOND FORM's CARD OF 'overspilllaw30.QuantsOf'. -/
def quantsOfUptoCard : Claim7 := { stood := { row := quantsOfUptoRow, standIns := [], harness := (true, "2349c01680b8c5c4cbcddfee2926d8701207fe843b123ee9e938dc920cedc01d"), looks := false }, kinds := [], alts := [], laidByText := true, laidKinds := [.data, .data, .data, .data], laidTests := true, laidLooks := .later }
def QuantsOfUptoCardSaid : Prop := Claim7.holds Tryd.pinned (.plain (OpenSpec.upto quantsOfSpec)) quantsOfUptoCard

/-- THE SECOND FORM's CARD OF 'overspilllaw30.QuantsGo'. -/
def quantsGoUptoCard : Claim7 := { stood := { row := quantsGoUptoRow, standIns := [], harness := (true, "2349c01680b8c5c4cbcddfee2926d8701207fe843b123ee9e938dc920cedc01d"), looks := false }, kinds := [], alts := [], laidByText := true, laidKinds := [.data, .data, .data, .data], laidTests := true, laidLooks := .later }
def QuantsGoUptoCardSaid : Prop := Claim7.holds Tryd.pinned (.plain (OpenSpec.upto quantsGoSpec)) quantsGoUptoCard
end Rows
end Go.Proofs.YtndbeacoaimdgaaDoor
