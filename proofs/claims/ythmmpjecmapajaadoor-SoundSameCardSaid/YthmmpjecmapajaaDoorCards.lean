/-
  DERIVED. GIVEN WITH THE SEED: THE CARDS: each row of YthmmpjecmapajaaDoorRows.lean that lists a variable, with what it lists TIED to the program's text (the seventh form; the later family's looks); each row that meets fmt, with fmt's text TOLD by the authors' own Lean function (tested against real Go, not proved from fmt's source: count such statements apart). THE CARD IS WHAT COUNTS. Prove the row's statement (the work); the ties are given (YthmmpjecmapajaaDoorTie.lean); close each card by the builder's one call (the guide's Derived/Test/ToyasCard.lean, 'card_holds'). Laid BY PROGRAM, IN A SANDBOX (cutbox-door.mjs). By AI agents, Wed Nov 11 2026. No macro, syntax, notation, axiom, sorry.
-/
import Derived.Test.YthmmpjecmapajaaDoorRows
import GoSem.ClaimSeven
namespace Go.Proofs.YthmmpjecmapajaaDoor
namespace Rows

/-- THE TIED CARD OF 'overspilllaw25.SoundChecks'. -/
def soundChecksCard : Claim7 := { stood := { row := soundChecksRow, standIns := [], harness := (true, "57bbe6dc303b5e311b524119f4ae896d7ccf0a187fc40fedcc477f29d8dc6c1b"), looks := false }, kinds := [], alts := [], laidByText := true, laidKinds := [.data, .data, .data, .data], laidTests := true, laidLooks := .later }
def SoundChecksCardSaid : Prop := Claim7.holds Tryd.pinned (.plain (OpenSpec.ofChange soundChecksSpec)) soundChecksCard

/-- THE TIED CARD OF 'overspilllaw25.SoundSame'. -/
def soundSameCard : Claim7 := { stood := { row := soundSameRow, standIns := [], harness := (true, "57bbe6dc303b5e311b524119f4ae896d7ccf0a187fc40fedcc477f29d8dc6c1b"), looks := false }, kinds := [], alts := [], laidByText := true, laidKinds := [.data, .data, .data, .data], laidTests := true, laidLooks := .later }
def SoundSameCardSaid : Prop := Claim7.holds Tryd.pinned (.plain (OpenSpec.ofChange soundSameSpec)) soundSameCard

/-- THE SECOND FORM's CARD OF 'overspilllaw25.SoundChecks'. -/
def soundChecksUptoCard : Claim7 := { stood := { row := soundChecksUptoRow, standIns := [], harness := (true, "57bbe6dc303b5e311b524119f4ae896d7ccf0a187fc40fedcc477f29d8dc6c1b"), looks := false }, kinds := [], alts := [], laidByText := true, laidKinds := [.data, .data, .data, .data], laidTests := true, laidLooks := .later }
def SoundChecksUptoCardSaid : Prop := Claim7.holds Tryd.pinned (.plain (OpenSpec.upto soundChecksSpec)) soundChecksUptoCard

/-- THE SECOND FORM's CARD OF 'overspilllaw25.SoundSame'. -/
def soundSameUptoCard : Claim7 := { stood := { row := soundSameUptoRow, standIns := [], harness := (true, "57bbe6dc303b5e311b524119f4ae896d7ccf0a187fc40fedcc477f29d8dc6c1b"), looks := false }, kinds := [], alts := [], laidByText := true, laidKinds := [.data, .data, .data, .data], laidTests := true, laidLooks := .later }
def SoundSameUptoCardSaid : Prop := Claim7.holds Tryd.pinned (.plain (OpenSpec.upto soundSameSpec)) soundSameUptoCard
end Rows
end Go.Proofs.YthmmpjecmapajaaDoor
