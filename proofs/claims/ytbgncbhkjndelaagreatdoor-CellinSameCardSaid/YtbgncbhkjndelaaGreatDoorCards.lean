/-
  DERIVED. GIVEN WITH THE SEED: THE CARDS: each row of YtbgncbhkjndelaaGreatDoorRows.lean that lists a variable, with what it lists TIED to the program's text (the seventh form; the later family's looks); each row that meets fmt, with fmt's text TOLD by the authors' own Lean function (tested against real Go, not proved from fmt's source: count such statements apart). THE CARD IS WHAT COUNTS. Prove the row's statement (the work); the ties are given (YtbgncbhkjndelaaGreatDoorTie.lean); close each card by the builder's one call (the guide's Derived/Test/ToyasCard.lean, 'card_holds'). Laid BY PROGRAM, IN A SANDBOX (cutbox-door.mjs). By AI agents, Wed Nov 11 2026. No macro, syntax, notation, axiom, sorry.
-/
import Derived.Test.YtbgncbhkjndelaaGreatDoorRows
import GoSem.ClaimSeven
namespace Go.Proofs.YtbgncbhkjndelaaGreatDoor
namespace Rows

/-- THE TIED CARD OF 'overspilllaw21.CellinTakes'. -/
def cellinTakesCard : Claim7 := { stood := { row := cellinTakesRow, standIns := [], harness := (true, "0a376495989d68c39a0d84857688330e483db72a6fc08a2b42af317c34f3039a"), looks := false }, kinds := [], alts := [], laidByText := true, laidKinds := [.data, .data, .data, .data, .data, .data, .data, .data, .data, .data, .data, .pinned], laidTests := true, laidLooks := .later }
def CellinTakesCardSaid : Prop := Claim7.holds Tryz.pinned (.plain (OpenSpec.ofChange cellinTakesSpec)) cellinTakesCard

/-- THE TIED CARD OF 'overspilllaw21.CellinSame'. -/
def cellinSameCard : Claim7 := { stood := { row := cellinSameRow, standIns := [], harness := (true, "0a376495989d68c39a0d84857688330e483db72a6fc08a2b42af317c34f3039a"), looks := false }, kinds := [], alts := [], laidByText := true, laidKinds := [.data, .data, .data, .data, .data, .data, .data, .data, .data, .data, .data, .pinned], laidTests := true, laidLooks := .later }
def CellinSameCardSaid : Prop := Claim7.holds Tryz.pinned (.plain (OpenSpec.ofChange cellinSameSpec)) cellinSameCard

/-- THE SECOND FORM's CARD OF 'overspilllaw21.CellinTakes'. -/
def cellinTakesUptoCard : Claim7 := { stood := { row := cellinTakesUptoRow, standIns := [], harness := (true, "0a376495989d68c39a0d84857688330e483db72a6fc08a2b42af317c34f3039a"), looks := false }, kinds := [], alts := [], laidByText := true, laidKinds := [.data, .data, .data, .data, .data, .data, .data, .data, .data, .data, .data, .pinned], laidTests := true, laidLooks := .later }
def CellinTakesUptoCardSaid : Prop := Claim7.holds Tryz.pinned (.plain (OpenSpec.upto cellinTakesSpec)) cellinTakesUptoCard

/-- THE SECOND FORM's CARD OF 'overspilllaw21.CellinSame'. -/
def cellinSameUptoCard : Claim7 := { stood := { row := cellinSameUptoRow, standIns := [], harness := (true, "0a376495989d68c39a0d84857688330e483db72a6fc08a2b42af317c34f3039a"), looks := false }, kinds := [], alts := [], laidByText := true, laidKinds := [.data, .data, .data, .data, .data, .data, .data, .data, .data, .data, .data, .pinned], laidTests := true, laidLooks := .later }
def CellinSameUptoCardSaid : Prop := Claim7.holds Tryz.pinned (.plain (OpenSpec.upto cellinSameSpec)) cellinSameUptoCard
end Rows
end Go.Proofs.YtbgncbhkjndelaaGreatDoor
