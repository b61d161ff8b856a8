/-
  DERIVED. GIVEN WITH THE SEED: THE CARDS: each row of YtkgabfmjfhljdaaDoorRows.lean that lists a variable, with what it lists TIED to the program's text (the seventh form; the later family's looks); each row that meets fmt, with fmt's text TOLD by the authors' own Lean function (tested against real Go, not proved from fmt's source: count such statements apart). THE CARD IS WHAT COUNTS. Prove the row's statement (the work); the ties are given (YtkgabfmjfhljdaaDoorTie.lean); close each card by the builder's one call (the guide's Derived/Test/ToyasCard.lean, 'card_holds'). Laid BY PROGRAM, IN A SANDBOX (cutbox-door.mjs). By AI agents, Wed Nov 11 2026. No macro, syntax, notation, axiom, sorry.
-/
import Derived.Test.YtkgabfmjfhljdaaDoorRows
import GoSem.ClaimSeven
namespace Go.Proofs.YtkgabfmjfhljdaaDoor
namespace Rows

/-- THE TIED CARD OF 'overspilllaw29.ResidueLevels'. -/
def residueLevelsCard : Claim7 := { stood := { row := residueLevelsRow, standIns := [], harness := (true, "96b2f71934841a3d436dbff3450fdfb7ce997769f2c9d91230848e62cc1b46ce"), looks := false }, kinds := [], alts := [], laidByText := true, laidKinds := [.data, .data, .data, .data, .data, .data], laidTests := true, laidLooks := .later }
def ResidueLevelsCardSaid : Prop := Claim7.holds Tryd.pinned (.plain (OpenSpec.ofChange residueLevelsSpec)) residueLevelsCard

/-- THE TIED CARD OF 'overspilllaw29.ResidueOf'. -/
def residueOfCard : Claim7 := { stood := { row := residueOfRow, standIns := [], harness := (true, "96b2f71934841a3d436dbff3450fdfb7ce997769f2c9d91230848e62cc1b46ce"), looks := false }, kinds := [], alts := [], laidByText := true, laidKinds := [.data, .data, .data, .data, .data, .data], laidTests := true, laidLooks := .later }
def ResidueOfCardSaid : Prop := Claim7.holds Tryd.pinned (.plain (OpenSpec.ofChange residueOfSpec)) residueOfCard

/-- THE SECOND FORM's CARD OF 'overspilllaw29.ResidueLevels'. -/
def residueLevelsUptoCard : Claim7 := { stood := { row := residueLevelsUptoRow, standIns := [], harness := (true, "96b2f71934841a3d436dbff3450fdfb7ce997769f2c9d91230848e62cc1b46ce"), looks := false }, kinds := [], alts := [], laidByText := true, laidKinds := [.data, .data, .data, .data, .data, .data], laidTests := true, laidLooks := .later }
def ResidueLevelsUptoCardSaid : Prop := Claim7.holds Tryd.pinned (.plain (OpenSpec.upto residueLevelsSpec)) residueLevelsUptoCard

/-- THE SECOND FORM's CARD OF 'overspilllaw29.ResidueOf'. -/
def residueOfUptoCard : Claim7 := { stood := { row := residueOfUptoRow, standIns := [], harness := (true, "96b2f71934841a3d436dbff3450fdfb7ce997769f2c9d91230848e62cc1b46ce"), looks := false }, kinds := [], alts := [], laidByText := true, laidKinds := [.data, .data, .data, .data, .data, .data], laidTests := true, laidLooks := .later }
def ResidueOfUptoCardSaid : Prop := Claim7.holds Tryd.pinned (.plain (OpenSpec.upto residueOfSpec)) residueOfUptoCard
end Rows
end Go.Proofs.YtkgabfmjfhljdaaDoor
