/-
  DERIVED. GIVEN WITH THE SEED: THE CARDS: each row of YtdnjefldijjgdaaDoorRows.lean that lists a variable, with what it lists TIED to the program's text (the seventh form; the later family's looks); each row that meets fmt, with fmt's text TOLD by the authors' own Lean function (tested against real Go, not proved from fmt's source: count such statements apart). THE CARD IS WHAT COUNTS. Prove the row's statement (the work); the ties are given (YtdnjefldijjgdaaDoorTie.lean); close each card by the builder's one call (the guide's Derived/Test/ToyasCard.lean, 'card_holds'). Laid BY PROGRAM, IN A SANDBOX (cutbox-door.mjs). By AI agents, Wed Nov 11 2026. No macro, syntax, notation, axiom, sorry.
-/
import Derived.Test.YtdnjefldijjgdaaDoorRows
import GoSem.ClaimSeven
namespace Go.Proofs.YtdnjefldijjgdaaDoor
namespace Rows

/-- THE TIED CARD OF 'overspilllaw31.RebuildSums'. -/
def rebuildSumsCard : Claim7 := { stood := { row := rebuildSumsRow, standIns := [], harness := (true, "06c0520eca38bf40a276b21100b4cda4930ddc62dd19933c69b1161db16d4e29"), looks := false }, kinds := [], alts := [], laidByText := true, laidKinds := [.data, .data, .data, .data, .data, .data], laidTests := true, laidLooks := .later }
def RebuildSumsCardSaid : Prop := Claim7.holds Tryd.pinned (.plain (OpenSpec.ofChange rebuildSumsSpec)) rebuildSumsCard

/-- THE TIED CARD OF 'overspilllaw31.RebuildSkips'. -/
def rebuildSkipsCard : Claim7 := { stood := { row := rebuildSkipsRow, standIns := [], harness := (true, "06c0520eca38bf40a276b21100b4cda4930ddc62dd19933c69b1161db16d4e29"), looks := false }, kinds := [], alts := [], laidByText := true, laidKinds := [.data, .data, .data, .data, .data, .data], laidTests := true, laidLooks := .later }
def RebuildSkipsCardSaid : Prop := Claim7.holds Tryd.pinned (.plain (OpenSpec.ofChange rebuildSkipsSpec)) rebuildSkipsCard

/-- THE SECOND FORM's CARD OF 'overspilllaw31.RebuildSums'. -/
def rebuildSumsUptoCard : Claim7 := { stood := { row := rebuildSumsUptoRow, standIns := [], harness := (true, "06c0520eca38bf40a276b21100b4cda4930ddc62dd19933c69b1161db16d4e29"), looks := false }, kinds := [], alts := [], laidByText := true, laidKinds := [.data, .data, .data, .data, .data, .data], laidTests := true, laidLooks := .later }
def RebuildSumsUptoCardSaid : Prop := Claim7.holds Tryd.pinned (.plain (OpenSpec.upto rebuildSumsSpec)) rebuildSumsUptoCard

/-- THE SECOND FORM's CARD OF 'overspilllaw31.RebuildSkips'. -/
def rebuildSkipsUptoCard : Claim7 := { stood := { row := rebuildSkipsUptoRow, standIns := [], harness := (true, "06c0520eca38bf40a276b21100b4cda4930ddc62dd19933c69b1161db16d4e29"), looks := false }, kinds := [], alts := [], laidByText := true, laidKinds := [.data, .data, .data, .data, .data, .data], laidTests := true, laidLooks := .later }
def RebuildSkipsUptoCardSaid : Prop := Claim7.holds Tryd.pinned (.plain (OpenSpec.upto rebuildSkipsSpec)) rebuildSkipsUptoCard
end Rows
end Go.Proofs.YtdnjefldijjgdaaDoor
