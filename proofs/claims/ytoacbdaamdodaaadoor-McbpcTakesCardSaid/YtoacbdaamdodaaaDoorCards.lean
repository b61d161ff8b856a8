/-
  DERIVED. GIVEN WITH THE SEED: THE CARDS: each row of YtoacbdaamdodaaaDoorRows.lean that lists a variable, with what it lists TIED to the program's text (the seventh form; the later family's looks); each row that meets fmt, with fmt's text TOLD by the authors' own Lean function (tested against real Go, not proved from fmt's source: count such statements apart). THE CARD IS WHAT COUNTS. Prove the row's statement (the work); the ties are given (YtoacbdaamdodaaaDoorTie.lean); close each card by the builder's one call (the guide's Derived/Test/ToyasCard.lean, 'card_holds'). Laid BY PROGRAM, IN A SANDBOX (cutbox-door.mjs). By AI agents, Wed Nov 11 2026. No macro, syntax, notation, axiom, sorry.
-/
import Derived.Test.YtoacbdaamdodaaaDoorRows
import GoSem.ClaimSeven
namespace Go.Proofs.YtoacbdaamdodaaaDoor
namespace Rows

/-- THE TIED CARD OF 'overspilllaw06.McbpcRows'. -/
def mcbpcRowsCard : Claim7 := { stood := { row := mcbpcRowsRow, standIns := [], harness := (true, "41a6b58bf7ed33d208927bb0c4c4f010be5f85d41cd036ac86ecf71b5f3d1d14"), looks := false }, kinds := [], alts := [], laidByText := true, laidKinds := [.data, .data, .data, .data, .pinned], laidTests := true, laidLooks := .later }
def McbpcRowsCardSaid : Prop := Claim7.holds Tryd.pinned (.plain (OpenSpec.ofChange mcbpcRowsSpec)) mcbpcRowsCard

/-- THE TIED CARD OF 'overspilllaw06.McbpcTakes'. -/
def mcbpcTakesCard : Claim7 := { stood := { row := mcbpcTakesRow, standIns := [], harness := (true, "41a6b58bf7ed33d208927bb0c4c4f010be5f85d41cd036ac86ecf71b5f3d1d14"), looks := false }, kinds := [], alts := [], laidByText := true, laidKinds := [.data, .data, .data, .data, .pinned], laidTests := true, laidLooks := .later }
def McbpcTakesCardSaid : Prop := Claim7.holds Tryd.pinned (.plain (OpenSpec.ofChange mcbpcTakesSpec)) mcbpcTakesCard

/-- THE TIED CARD OF 'overspilllaw06.McbpcBack'. -/
def mcbpcBackCard : Claim7 := { stood := { row := mcbpcBackRow, standIns := [], harness := (true, "41a6b58bf7ed33d208927bb0c4c4f010be5f85d41cd036ac86ecf71b5f3d1d14"), looks := false }, kinds := [], alts := [], laidByText := true, laidKinds := [.data, .data, .data, .data, .pinned], laidTests := true, laidLooks := .later }
def McbpcBackCardSaid : Prop := Claim7.holds Tryd.pinned (.plain (OpenSpec.ofChange mcbpcBackSpec)) mcbpcBackCard

/-- THE SECOND FORM's CARD OF 'overspilllaw06.McbpcRows'. -/
def mcbpcRowsUptoCard : Claim7 := { stood := { row := mcbpcRowsUptoRow, standIns := [], harness := (true, "41a6b58bf7ed33d208927bb0c4c4f010be5f85d41cd036ac86ecf71b5f3d1d14"), looks := false }, kinds := [], alts := [], laidByText := true, laidKinds := [.data, .data, .data, .data, .pinned], laidTests := true, laidLooks := .later }
def McbpcRowsUptoCardSaid : Prop := Claim7.holds Tryd.pinned (.plain (OpenSpec.upto mcbpcRowsSpec)) mcbpcRowsUptoCard

/-- THE SECOND FORM's CARD OF 'overspilllaw06.McbpcTakes'. -/
def mcbpcTakesUptoCard : Claim7 := { stood := { row := mcbpcTakesUptoRow, standIns := [], harness := (true, "41a6b58bf7ed33d208927bb0c4c4f010be5f85d41cd036ac86ecf71b5f3d1d14"), looks := false }, kinds := [], alts := [], laidByText := true, laidKinds := [.data, .data, .data, .data, .pinned], laidTests := true, laidLooks := .later }
def McbpcTakesUptoCardSaid : Prop := Claim7.holds Tryd.pinned (.plain (OpenSpec.upto mcbpcTakesSpec)) mcbpcTakesUptoCard

/-- THE SECOND FORM's CARD OF 'overspilllaw06.McbpcBack'. -/
def mcbpcBackUptoCard : Claim7 := { stood := { row := mcbpcBackUptoRow, standIns := [], harness := (true, "41a6b58bf7ed33d208927bb0c4c4f010be5f85d41cd036ac86ecf71b5f3d1d14"), looks := false }, kinds := [], alts := [], laidByText := true, laidKinds := [.data, .data, .data, .data, .pinned], laidTests := true, laidLooks := .later }
def McbpcBackUptoCardSaid : Prop := Claim7.holds Tryd.pinned (.plain (OpenSpec.upto mcbpcBackSpec)) mcbpcBackUptoCard
end Rows
end Go.Proofs.YtoacbdaamdodaaaDoor
