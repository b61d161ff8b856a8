/-
  DERIVED. GIVEN WITH THE SEED: THE CARDS: each row of YtekjgcchnmnplaaDoorRows.lean that lists a variable, with what it lists TIED to the program's text (the seventh form; the later family's looks); each row that meets fmt, with fmt's text TOLD by the authors' own Lean function (tested against real Go, not proved from fmt's source: count such statements apart). THE CARD IS WHAT COUNTS. Prove the row's statement (the work); the ties are given (YtekjgcchnmnplaaDoorTie.lean); close each card by the builder's one call (the guide's Derived/Test/ToyasCard.lean, 'card_holds'). Laid BY PROGRAM, IN A SANDBOX (cutbox-door.mjs). By AI agents, Wed Nov 11 2026. No macro, syntax, notation, axiom, sorry.
-/
import Derived.Test.YtekjgcchnmnplaaDoorRows
import GoSem.ClaimSeven
namespace Go.Proofs.YtekjgcchnmnplaaDoor
namespace Rows

/-- THE TIED CARD OF 'overspilllaw22.CelloutPuts'. -/
def celloutPutsCard : Claim7 := { stood := { row := celloutPutsRow, standIns := [], harness := (true, "32cf9d8701f17ffaa4c0e9a27448482ac3b97cf298b44069e8e3c4c8ee5710ed"), looks := false }, kinds := [], alts := [], laidByText := true, laidKinds := [.data, .data, .data, .data, .data, .data, .data], laidTests := true, laidLooks := .later }
def CelloutPutsCardSaid : Prop := Claim7.holds Tryd.pinned (.plain (OpenSpec.ofChange celloutPutsSpec)) celloutPutsCard

/-- THE SECOND FORM's CARD OF 'overspilllaw22.CelloutPuts'. -/
def celloutPutsUptoCard : Claim7 := { stood := { row := celloutPutsUptoRow, standIns := [], harness := (true, "32cf9d8701f17ffaa4c0e9a27448482ac3b97cf298b44069e8e3c4c8ee5710ed"), looks := false }, kinds := [], alts := [], laidByText := true, laidKinds := [.data, .data, .data, .data, .data, .data, .data], laidTests := true, laidLooks := .later }
def CelloutPutsUptoCardSaid : Prop := Claim7.holds Tryd.pinned (.plain (OpenSpec.upto celloutPutsSpec)) celloutPutsUptoCard
end Rows
end Go.Proofs.YtekjgcchnmnplaaDoor
