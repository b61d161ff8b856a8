/-
  DERIVED. GIVEN WITH THE SEED: THE CARDS: each row of YtmjpldoanfefgaaDoorRows.lean that lists a variable, with what it lists TIED to the program's text (the seventh form; the later family's looks); each row that meets fmt, with fmt's text TOLD by the authors' own Lean function (tested against real Go, not proved from fmt's source: count such statements apart). THE CARD IS WHAT COUNTS. Prove the row's statement (the work); the ties are given (YtmjpldoanfefgaaDoorTie.lean); close each card by the builder's one call (the guide's Derived/Test/ToyasCard.lean, 'card_holds'). Laid BY PROGRAM, IN A SANDBOX (cutbox-door.mjs). By AI agents, Wed Nov 11 2026. No macro, syntax, notation, axiom, sorry.
-/
import Derived.Test.YtmjpldoanfefgaaDoorRows
import GoSem.ClaimSeven
namespace Go.Proofs.YtmjpldoanfefgaaDoor
namespace Rows

/-- THE TIED CARD OF 'overspilllaw05.PrefixMakes'. -/
def prefixMakesCard : Claim7 := { stood := { row := prefixMakesRow, standIns := [], harness := (true, "8e4b5143dc6da6281a44442b87683d5443c1bd5dcc5de4b74efc08572c8479a8"), looks := false }, kinds := [], alts := [], laidByText := true, laidKinds := [.data, .pinned], laidTests := true, laidLooks := .later }
def PrefixMakesCardSaid : Prop := Claim7.holds Tryd.pinned (.plain (OpenSpec.ofChange prefixMakesSpec)) prefixMakesCard

/-- THE TIED CARD OF 'overspilllaw05.PrefixTakes'. -/
def prefixTakesCard : Claim7 := { stood := { row := prefixTakesRow, standIns := [], harness := (true, "8e4b5143dc6da6281a44442b87683d5443c1bd5dcc5de4b74efc08572c8479a8"), looks := false }, kinds := [], alts := [], laidByText := true, laidKinds := [.data, .pinned], laidTests := true, laidLooks := .later }
def PrefixTakesCardSaid : Prop := Claim7.holds Tryd.pinned (.plain (OpenSpec.ofChange prefixTakesSpec)) prefixTakesCard

/-- THE TIED CARD OF 'overspilllaw05.PrefixBack'. -/
def prefixBackCard : Claim7 := { stood := { row := prefixBackRow, standIns := [], harness := (true, "8e4b5143dc6da6281a44442b87683d5443c1bd5dcc5de4b74efc08572c8479a8"), looks := false }, kinds := [], alts := [], laidByText := true, laidKinds := [.data, .pinned], laidTests := true, laidLooks := .later }
def PrefixBackCardSaid : Prop := Claim7.holds Tryd.pinned (.plain (OpenSpec.ofChange prefixBackSpec)) prefixBackCard

/-- THE TIED CARD OF 'overspilllaw05.PrefixNone'. -/
def prefixNoneCard : Claim7 := { stood := { row := prefixNoneRow, standIns := [], harness := (true, "8e4b5143dc6da6281a44442b87683d5443c1bd5dcc5de4b74efc08572c8479a8"), looks := false }, kinds := [], alts := [], laidByText := true, laidKinds := [.data, .pinned], laidTests := true, laidLooks := .later }
def PrefixNoneCardSaid : Prop := Claim7.holds Tryd.pinned (.plain (OpenSpec.ofChange prefixNoneSpec)) prefixNoneCard

/-- THE SECOND FORM's CARD OF 'overspilllaw05.PrefixMakes'. -/
def prefixMakesUptoCard : Claim7 := { stood := { row := prefixMakesUptoRow, standIns := [], harness := (true, "8e4b5143dc6da6281a44442b87683d5443c1bd5dcc5de4b74efc08572c8479a8"), looks := false }, kinds := [], alts := [], laidByText := true, laidKinds := [.data, .pinned], laidTests := true, laidLooks := .later }
def PrefixMakesUptoCardSaid : Prop := Claim7.holds Tryd.pinned (.plain (OpenSpec.upto prefixMakesSpec)) prefixMakesUptoCard

/-- THE SECOND FORM's CARD OF 'overspilllaw05.PrefixTakes'. -/
def prefixTakesUptoCard : Claim7 := { stood := { row := prefixTakesUptoRow, standIns := [], harness := (true, "8e4b5143dc6da6281a44442b87683d5443c1bd5dcc5de4b74efc08572c8479a8"), looks := false }, kinds := [], alts := [], laidByText := true, laidKinds := [.data, .pinned], laidTests := true, laidLooks := .later }
def PrefixTakesUptoCardSaid : Prop := Claim7.holds Tryd.pinned (.plain (OpenSpec.upto prefixTakesSpec)) prefixTakesUptoCard

/-- THE SECOND FORM's CARD OF 'overspilllaw05.PrefixBack'. -/
def prefixBackUptoCard : Claim7 := { stood := { row := prefixBackUptoRow, standIns := [], harness := (true, "8e4b5143dc6da6281a44442b87683d5443c1bd5dcc5de4b74efc08572c8479a8"), looks := false }, kinds := [], alts := [], laidByText := true, laidKinds := [.data, .pinned], laidTests := true, laidLooks := .later }
def PrefixBackUptoCardSaid : Prop := Claim7.holds Tryd.pinned (.plain (OpenSpec.upto prefixBackSpec)) prefixBackUptoCard

/-- THE SECOND FORM's CARD OF 'overspilllaw05.PrefixNone'. -/
def prefixNoneUptoCard : Claim7 := { stood := { row := prefixNoneUptoRow, standIns := [], harness := (true, "8e4b5143dc6da6281a44442b87683d5443c1bd5dcc5de4b74efc08572c8479a8"), looks := false }, kinds := [], alts := [], laidByText := true, laidKinds := [.data, .pinned], laidTests := true, laidLooks := .later }
def PrefixNoneUptoCardSaid : Prop := Claim7.holds Tryd.pinned (.plain (OpenSpec.upto prefixNoneSpec)) prefixNoneUptoCard
end Rows
end Go.Proofs.YtmjpldoanfefgaaDoor
