/-
  DERIVED. GIVEN WITH THE SEED: THE CARDS: each row of YtbooiedfocigfaaDoorRows.lean that lists a variable, with what it lists TIED to the program's text (the seventh form; the later family's looks); each row that meets fmt, with fmt's text TOLD by the authors' own Lean function (tested against real Go, not proved from fmt's source: count such statements apart). THE CARD IS WHAT COUNTS. Prove the row's statement (the work); the ties are given (YtbooiedfocigfaaDoorTie.lean); close each card by the builder's one call (the guide's Derived/Test/ToyasCard.lean, 'card_holds'). Laid BY PROGRAM, IN A SANDBOX (cutbox-door.mjs). By AI agents, Wed Nov 11 2026. No macro, syntax, notation, axiom, sorry.
-/
import Derived.Test.YtbooiedfocigfaaDoorRows
import GoSem.ClaimSeven
namespace Go.Proofs.YtbooiedfocigfaaDoor
namespace Rows

/-- THE TIED CARD OF 'overspilllaw08.MvdRows'. -/
def mvdRowsCard : Claim7 := { stood := { row := mvdRowsRow, standIns := [], harness := (true, "31f8a3bf50bca941f7984911c58afd489fa98d649b629fb1606c19c96d22401b"), looks := false }, kinds := [], alts := [], laidByText := true, laidKinds := [.data, .data], laidTests := true, laidLooks := .later }
def MvdRowsCardSaid : Prop := Claim7.holds Tryd.pinned (.plain (OpenSpec.ofChange mvdRowsSpec)) mvdRowsCard

/-- THE TIED CARD OF 'overspilllaw08.MvdTakes'. -/
def mvdTakesCard : Claim7 := { stood := { row := mvdTakesRow, standIns := [], harness := (true, "31f8a3bf50bca941f7984911c58afd489fa98d649b629fb1606c19c96d22401b"), looks := false }, kinds := [], alts := [], laidByText := true, laidKinds := [.data, .data], laidTests := true, laidLooks := .later }
def MvdTakesCardSaid : Prop := Claim7.holds Tryd.pinned (.plain (OpenSpec.ofChange mvdTakesSpec)) mvdTakesCard

/-- THE TIED CARD OF 'overspilllaw08.MvdBack'. -/
def mvdBackCard : Claim7 := { stood := { row := mvdBackRow, standIns := [], harness := (true, "31f8a3bf50bca941f7984911c58afd489fa98d649b629fb1606c19c96d22401b"), looks := false }, kinds := [], alts := [], laidByText := true, laidKinds := [.data, .data], laidTests := true, laidLooks := .later }
def MvdBackCardSaid : Prop := Claim7.holds Tryd.pinned (.plain (OpenSpec.ofChange mvdBackSpec)) mvdBackCard

/-- THE SECOND FORM's CARD OF 'overspilllaw08.MvdRows'. -/
def mvdRowsUptoCard : Claim7 := { stood := { row := mvdRowsUptoRow, standIns := [], harness := (true, "31f8a3bf50bca941f7984911c58afd489fa98d649b629fb1606c19c96d22401b"), looks := false }, kinds := [], alts := [], laidByText := true, laidKinds := [.data, .data], laidTests := true, laidLooks := .later }
def MvdRowsUptoCardSaid : Prop := Claim7.holds Tryd.pinned (.plain (OpenSpec.upto mvdRowsSpec)) mvdRowsUptoCard

/-- THE SECOND FORM's CARD OF 'overspilllaw08.MvdTakes'. -/
def mvdTakesUptoCard : Claim7 := { stood := { row := mvdTakesUptoRow, standIns := [], harness := (true, "31f8a3bf50bca941f7984911c58afd489fa98d649b629fb1606c19c96d22401b"), looks := false }, kinds := [], alts := [], laidByText := true, laidKinds := [.data, .data], laidTests := true, laidLooks := .later }
def MvdTakesUptoCardSaid : Prop := Claim7.holds Tryd.pinned (.plain (OpenSpec.upto mvdTakesSpec)) mvdTakesUptoCard

/-- THE SECOND FORM's CARD OF 'overspilllaw08.MvdBack'. -/
def mvdBackUptoCard : Claim7 := { stood := { row := mvdBackUptoRow, standIns := [], harness := (true, "31f8a3bf50bca941f7984911c58afd489fa98d649b629fb1606c19c96d22401b"), looks := false }, kinds := [], alts := [], laidByText := true, laidKinds := [.data, .data], laidTests := true, laidLooks := .later }
def MvdBackUptoCardSaid : Prop := Claim7.holds Tryd.pinned (.plain (OpenSpec.upto mvdBackSpec)) mvdBackUptoCard
end Rows
end Go.Proofs.YtbooiedfocigfaaDoor
