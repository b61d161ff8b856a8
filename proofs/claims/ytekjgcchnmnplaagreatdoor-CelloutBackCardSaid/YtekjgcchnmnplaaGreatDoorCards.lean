/-
  DERIVED. GIVEN WITH THE SEED: THE CARDS: each row of YtekjgcchnmnplaaGreatDoorRows.lean that lists a variable, with what it lists TIED to the program's text (the seventh form; the later family's looks); each row that meets fmt, with fmt's text TOLD by the authors' own Lean function (tested against real Go, not proved from fmt's source: count such statements apart). THE CARD IS WHAT COUNTS. Prove the row's statement (the work); the ties are given (YtekjgcchnmnplaaGreatDoorTie.lean); close each card by the builder's one call (the guide's Derived/Test/ToyasCard.lean, 'card_holds'). Laid BY PROGRAM, IN A SANDBOX (cutbox-door.mjs). By AI agents, Wed Nov 11 2026. No macro, syntax, notation, axiom, sorry.
-/
import Derived.Test.YtekjgcchnmnplaaGreatDoorRows
import GoSem.ClaimSeven
namespace Go.Proofs.YtekjgcchnmnplaaGreatDoor
namespace Rows

/-- THE TIED CARD OF 'overspilllaw22.CelloutBack'. -/
def celloutBackCard : Claim7 := { stood := { row := celloutBackRow, standIns := [], harness := (true, "3404c1f5b8b15aa083dfffe7ea5fa7f2bd7b4afcdf349981baea3797467a6a8d"), looks := false }, kinds := [], alts := [], laidByText := true, laidKinds := [.data, .data, .data, .data, .data, .data, .data, .data, .data, .data, .data, .pinned], laidTests := true, laidLooks := .later }
def CelloutBackCardSaid : Prop := Claim7.holds Tryz.pinned (.plain (OpenSpec.ofChange celloutBackSpec)) celloutBackCard

/-- THE TIED CARD OF 'overspilllaw22.CelloutOnce'. -/
def celloutOnceCard : Claim7 := { stood := { row := celloutOnceRow, standIns := [], harness := (true, "3404c1f5b8b15aa083dfffe7ea5fa7f2bd7b4afcdf349981baea3797467a6a8d"), looks := false }, kinds := [], alts := [], laidByText := true, laidKinds := [.data, .data, .data, .data, .data, .data, .data, .data, .data, .data, .data, .pinned], laidTests := true, laidLooks := .later }
def CelloutOnceCardSaid : Prop := Claim7.holds Tryz.pinned (.plain (OpenSpec.ofChange celloutOnceSpec)) celloutOnceCard

/-- THE SECOND FORM's CARD OF 'overspilllaw22.CelloutBack'. -/
def celloutBackUptoCard : Claim7 := { stood := { row := celloutBackUptoRow, standIns := [], harness := (true, "3404c1f5b8b15aa083dfffe7ea5fa7f2bd7b4afcdf349981baea3797467a6a8d"), looks := false }, kinds := [], alts := [], laidByText := true, laidKinds := [.data, .data, .data, .data, .data, .data, .data, .data, .data, .data, .data, .pinned], laidTests := true, laidLooks := .later }
def CelloutBackUptoCardSaid : Prop := Claim7.holds Tryz.pinned (.plain (OpenSpec.upto celloutBackSpec)) celloutBackUptoCard

/-- THE SECOND FORM's CARD OF 'overspilllaw22.CelloutOnce'. -/
def celloutOnceUptoCard : Claim7 := { stood := { row := celloutOnceUptoRow, standIns := [], harness := (true, "3404c1f5b8b15aa083dfffe7ea5fa7f2bd7b4afcdf349981baea3797467a6a8d"), looks := false }, kinds := [], alts := [], laidByText := true, laidKinds := [.data, .data, .data, .data, .data, .data, .data, .data, .data, .data, .data, .pinned], laidTests := true, laidLooks := .later }
def CelloutOnceUptoCardSaid : Prop := Claim7.holds Tryz.pinned (.plain (OpenSpec.upto celloutOnceSpec)) celloutOnceUptoCard
end Rows
end Go.Proofs.YtekjgcchnmnplaaGreatDoor
