/-
  DERIVED. GIVEN WITH THE SEED: THE CARDS: each row of YtjjmalchelniiaaGreatDoorRows.lean that lists a variable, with what it lists TIED to the program's text (the seventh form; the later family's looks); each row that meets fmt, with fmt's text TOLD by the authors' own Lean function (tested against real Go, not proved from fmt's source: count such statements apart). THE CARD IS WHAT COUNTS. Prove the row's statement (the work); the ties are given (YtjjmalchelniiaaGreatDoorTie.lean); close each card by the builder's one call (the guide's Derived/Test/ToyasCard.lean, 'card_holds'). Laid BY PROGRAM, IN A SANDBOX (cutbox-door.mjs). By AI agents, Wed Nov 11 2026. No macro, syntax, notation, axiom, sorry.
-/
import Derived.Test.YtjjmalchelniiaaGreatDoorRows
import GoSem.ClaimSeven
namespace Go.Proofs.YtjjmalchelniiaaGreatDoor
namespace Rows

/-- THE TIED CARD OF 'overspilllaw28.StripsChecks'. -/
def stripsChecksCard : Claim7 := { stood := { row := stripsChecksRow, standIns := [], harness := (true, "9da07a08f154bd8d4ae91d65deb9b24c2f6db39892d035e61e611b72e75c452f"), looks := false }, kinds := [], alts := [], laidByText := true, laidKinds := [.data, .data, .data, .data, .data, .data, .data, .data, .data, .data, .data, .pinned], laidTests := true, laidLooks := .later }
def StripsChecksCardSaid : Prop := Claim7.holds Tryz.pinned (.plain (OpenSpec.ofChange stripsChecksSpec)) stripsChecksCard

/-- THE TIED CARD OF 'overspilllaw28.StripsParses'. -/
def stripsParsesCard : Claim7 := { stood := { row := stripsParsesRow, standIns := [], harness := (true, "9da07a08f154bd8d4ae91d65deb9b24c2f6db39892d035e61e611b72e75c452f"), looks := false }, kinds := [], alts := [], laidByText := true, laidKinds := [.data, .data, .data, .data, .data, .data, .data, .data, .data, .data, .data, .pinned], laidTests := true, laidLooks := .later }
def StripsParsesCardSaid : Prop := Claim7.holds Tryz.pinned (.plain (OpenSpec.ofChange stripsParsesSpec)) stripsParsesCard

/-- THE TIED CARD OF 'overspilllaw28.StripsWrites'. -/
def stripsWritesCard : Claim7 := { stood := { row := stripsWritesRow, standIns := [], harness := (true, "9da07a08f154bd8d4ae91d65deb9b24c2f6db39892d035e61e611b72e75c452f"), looks := false }, kinds := [], alts := [], laidByText := true, laidKinds := [.data, .data, .data, .data, .data, .data, .data, .data, .data, .data, .data, .pinned], laidTests := true, laidLooks := .later }
def StripsWritesCardSaid : Prop := Claim7.holds Tryz.pinned (.plain (OpenSpec.ofChange stripsWritesSpec)) stripsWritesCard

/-- THE TIED CARD OF 'overspilllaw28.StripsBack'. -/
def stripsBackCard : Claim7 := { stood := { row := stripsBackRow, standIns := [], harness := (true, "9da07a08f154bd8d4ae91d65deb9b24c2f6db39892d035e61e611b72e75c452f"), looks := false }, kinds := [], alts := [], laidByText := true, laidKinds := [.data, .data, .data, .data, .data, .data, .data, .data, .data, .data, .data, .pinned], laidTests := true, laidLooks := .later }
def StripsBackCardSaid : Prop := Claim7.holds Tryz.pinned (.plain (OpenSpec.ofChange stripsBackSpec)) stripsBackCard

/-- THE TIED CARD OF 'overspilllaw28.StripsOnce'. -/
def stripsOnceCard : Claim7 := { stood := { row := stripsOnceRow, standIns := [], harness := (true, "9da07a08f154bd8d4ae91d65deb9b24c2f6db39892d035e61e611b72e75c452f"), looks := false }, kinds := [], alts := [], laidByText := true, laidKinds := [.data, .data, .data, .data, .data, .data, .data, .data, .data, .data, .data, .pinned], laidTests := true, laidLooks := .later }
def StripsOnceCardSaid : Prop := Claim7.holds Tryz.pinned (.plain (OpenSpec.ofChange stripsOnceSpec)) stripsOnceCard

/-- THE SECOND FORM's CARD OF 'overspilllaw28.StripsChecks'. -/
def stripsChecksUptoCard : Claim7 := { stood := { row := stripsChecksUptoRow, standIns := [], harness := (true, "9da07a08f154bd8d4ae91d65deb9b24c2f6db39892d035e61e611b72e75c452f"), looks := false }, kinds := [], alts := [], laidByText := true, laidKinds := [.data, .data, .data, .data, .data, .data, .data, .data, .data, .data, .data, .pinned], laidTests := true, laidLooks := .later }
def StripsChecksUptoCardSaid : Prop := Claim7.holds Tryz.pinned (.plain (OpenSpec.upto stripsChecksSpec)) stripsChecksUptoCard

/-- THE SECOND FORM's CARD OF 'overspilllaw28.StripsParses'. -/
def stripsParsesUptoCard : Claim7 := { stood := { row := stripsParsesUptoRow, standIns := [], harness := (true, "9da07a08f154bd8d4ae91d65deb9b24c2f6db39892d035e61e611b72e75c452f"), looks := false }, kinds := [], alts := [], laidByText := true, laidKinds := [.data, .data, .data, .data, .data, .data, .data, .data, .data, .data, .data, .pinned], laidTests := true, laidLooks := .later }
def StripsParsesUptoCardSaid : Prop := Claim7.holds Tryz.pinned (.plain (OpenSpec.upto stripsParsesSpec)) stripsParsesUptoCard

/-- THE SECOND FORM's CARD OF 'overspilllaw28.StripsWrites'. -/
def stripsWritesUptoCard : Claim7 := { stood := { row := stripsWritesUptoRow, standIns := [], harness := (true, "9da07a08f154bd8d4ae91d65deb9b24c2f6db39892d035e61e611b72e75c452f"), looks := false }, kinds := [], alts := [], laidByText := true, laidKinds := [.data, .data, .data, .data, .data, .data, .data, .data, .data, .data, .data, .pinned], laidTests := true, laidLooks := .later }
def StripsWritesUptoCardSaid : Prop := Claim7.holds Tryz.pinned (.plain (OpenSpec.upto stripsWritesSpec)) stripsWritesUptoCard

/-- THE SECOND FORM's CARD OF 'overspilllaw28.StripsBack'. -/
def stripsBackUptoCard : Claim7 := { stood := { row := stripsBackUptoRow, standIns := [], harness := (true, "9da07a08f154bd8d4ae91d65deb9b24c2f6db39892d035e61e611b72e75c452f"), looks := false }, kinds := [], alts := [], laidByText := true, laidKinds := [.data, .data, .data, .data, .data, .data, .data, .data, .data, .data, .data, .pinned], laidTests := true, laidLooks := .later }
def StripsBackUptoCardSaid : Prop := Claim7.holds Tryz.pinned (.plain (OpenSpec.upto stripsBackSpec)) stripsBackUptoCard

/-- THE SECOND FORM's CARD OF 'overspilllaw28.StripsOnce'. -/
def stripsOnceUptoCard : Claim7 := { stood := { row := stripsOnceUptoRow, standIns := [], harness := (true, "9da07a08f154bd8d4ae91d65deb9b24c2f6db39892d035e61e611b72e75c452f"), looks := false }, kinds := [], alts := [], laidByText := true, laidKinds := [.data, .data, .data, .data, .data, .data, .data, .data, .data, .data, .data, .pinned], laidTests := true, laidLooks := .later }
def StripsOnceUptoCardSaid : Prop := Claim7.holds Tryz.pinned (.plain (OpenSpec.upto stripsOnceSpec)) stripsOnceUptoCard
end Rows
end Go.Proofs.YtjjmalchelniiaaGreatDoor
