/-
  DERIVED. GIVEN WITH THE SEED: THE CARDS: each row of YtologhgoojkpmaaDoorRows.lean that lists a variable, with what it lists TIED to the program's text (the seventh form; the later family's looks); each row that meets fmt, with fmt's text TOLD by the authors' own Lean function (tested against real Go, not proved from fmt's source: count such statements apart). THE CARD IS WHAT COUNTS. Prove the row's statement (the work); the ties are given (YtologhgoojkpmaaDoorTie.lean); close each card by the builder's one call (the guide's Derived/Test/ToyasCard.lean, 'card_holds'). Laid BY PROGRAM, IN A SANDBOX (cutbox-door.mjs). By AI agents, Wed Nov 11 2026. No macro, syntax, notation, axiom, sorry.
-/
import Derived.Test.YtologhgoojkpmaaDoorRows
import GoSem.ClaimSeven
namespace Go.Proofs.YtologhgoojkpmaaDoor
namespace Rows

/-- THE TIED CARD OF 'overspilllaw15.BlocksPuts'. -/
def blocksPutsCard : Claim7 := { stood := { row := blocksPutsRow, standIns := [], harness := (true, "0d34d25aca431d29f1699ebde00dba9537ed246c13c2ca790a1a8683fea1d606"), looks := false }, kinds := [], alts := [], laidByText := true, laidKinds := [.data, .data, .data], laidTests := true, laidLooks := .later }
def BlocksPutsCardSaid : Prop := Claim7.holds Tryd.pinned (.plain (OpenSpec.ofChange blocksPutsSpec)) blocksPutsCard

/-- THE TIED CARD OF 'overspilllaw15.BlocksTakes'. -/
def blocksTakesCard : Claim7 := { stood := { row := blocksTakesRow, standIns := [], harness := (true, "0d34d25aca431d29f1699ebde00dba9537ed246c13c2ca790a1a8683fea1d606"), looks := false }, kinds := [], alts := [], laidByText := true, laidKinds := [.data, .data, .data], laidTests := true, laidLooks := .later }
def BlocksTakesCardSaid : Prop := Claim7.holds Tryd.pinned (.plain (OpenSpec.ofChange blocksTakesSpec)) blocksTakesCard

/-- THE TIED CARD OF 'overspilllaw15.BlocksBack'. -/
def blocksBackCard : Claim7 := { stood := { row := blocksBackRow, standIns := [], harness := (true, "0d34d25aca431d29f1699ebde00dba9537ed246c13c2ca790a1a8683fea1d606"), looks := false }, kinds := [], alts := [], laidByText := true, laidKinds := [.data, .data, .data], laidTests := true, laidLooks := .later }
def BlocksBackCardSaid : Prop := Claim7.holds Tryd.pinned (.plain (OpenSpec.ofChange blocksBackSpec)) blocksBackCard

/-- THE SECOND FORM's CARD OF 'overspilllaw15.BlocksPuts'. -/
def blocksPutsUptoCard : Claim7 := { stood := { row := blocksPutsUptoRow, standIns := [], harness := (true, "0d34d25aca431d29f1699ebde00dba9537ed246c13c2ca790a1a8683fea1d606"), looks := false }, kinds := [], alts := [], laidByText := true, laidKinds := [.data, .data, .data], laidTests := true, laidLooks := .later }
def BlocksPutsUptoCardSaid : Prop := Claim7.holds Tryd.pinned (.plain (OpenSpec.upto blocksPutsSpec)) blocksPutsUptoCard

/-- THE SECOND FORM's CARD OF 'overspilllaw15.BlocksTakes'. -/
def blocksTakesUptoCard : Claim7 := { stood := { row := blocksTakesUptoRow, standIns := [], harness := (true, "0d34d25aca431d29f1699ebde00dba9537ed246c13c2ca790a1a8683fea1d606"), looks := false }, kinds := [], alts := [], laidByText := true, laidKinds := [.data, .data, .data], laidTests := true, laidLooks := .later }
def BlocksTakesUptoCardSaid : Prop := Claim7.holds Tryd.pinned (.plain (OpenSpec.upto blocksTakesSpec)) blocksTakesUptoCard

/-- THE SECOND FORM's CARD OF 'overspilllaw15.BlocksBack'. -/
def blocksBackUptoCard : Claim7 := { stood := { row := blocksBackUptoRow, standIns := [], harness := (true, "0d34d25aca431d29f1699ebde00dba9537ed246c13c2ca790a1a8683fea1d606"), looks := false }, kinds := [], alts := [], laidByText := true, laidKinds := [.data, .data, .data], laidTests := true, laidLooks := .later }
def BlocksBackUptoCardSaid : Prop := Claim7.holds Tryd.pinned (.plain (OpenSpec.upto blocksBackSpec)) blocksBackUptoCard
end Rows
end Go.Proofs.YtologhgoojkpmaaDoor
