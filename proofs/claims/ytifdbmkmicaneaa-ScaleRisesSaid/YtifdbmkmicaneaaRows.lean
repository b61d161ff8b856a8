/-
  No cell of these rows narrows 'for every input' (looked for: loops, veiled, ifaces, maps, wideKeys, modest, calm, conditions, laid).
  DERIVED. THE GIVEN ROWS OF THIS SEAT. 3 by the template 'for every input the law returns true; each argument reads behind the call as it read before'; 0 by the template 'total and deterministic' (their statements: YtifdbmkmicaneaaTotals.lean).
  GIVEN WITH THE SEED: the statements are not yours to turn. If you find one false, say at which input.
  Laid BY PROGRAM, IN A SANDBOX (cutbox-rows.mjs): the forced cells as the released guide's own fill.sh prints them over the translation 26460d35fcaf3a76… (all of the seat's roots in one cut). By AI agents, Wed Nov 11 2026. No macro, syntax, notation, axiom, sorry.
-/
import Derived.Test.YtifdbmkmicaneaaChecked
import GoSem.Claim
import GoSem.ClaimJoined
import GoSem.ClaimMapViews
import Derived.JoinedTies
import Derived.KernelRfl
namespace Go.Proofs.Ytifdbmkmicaneaa
/- THE CELL 'sum', in the pinned program and in every row, IS THE sha256 OF THE DUMP (.gsa) THAT YtifdbmkmicaneaaProg.lean LOADS. Nothing in Lean hashes anything: it is a label: what it is worth is what the hold of that sum in a sandbox is worth. -/
noncomputable def Try.pinned : Pinned := { name := "ytifdbmkmicaneaa", sum := "26460d35fcaf3a769d2d8b03c040214da92e93034f1e5dac686a5c7419ace98b", checked := Try.checked }
namespace Rows
def none {H : Type} : Left H := { results := [], args := [] }

/-- 'overspilllaw12.ScaleValues': WHATEVER THE INPUT: true; the input reads as it did. -/
def scaleValuesSpec : ChangeSpec := { name := "scaleValues", fn := fun _ => fun
  | [d1, d2] => { results := [.lit (.bool true)], args := [d1, d2] }
  | _ => none }
def scaleValuesRow : OpenClaim := { program := "ytifdbmkmicaneaa", sum := "26460d35fcaf3a769d2d8b03c040214da92e93034f1e5dac686a5c7419ace98b", func := "overspill/overspilllaw12.ScaleValues", spec := "scaleValues", apart := false }
def ScaleValuesSaid : Prop := scaleValuesRow.holds Try.pinned (OpenSpec.ofChange scaleValuesSpec)

/-- ITS FALSE NEIGHBOUR: 'it returns false'. Refute it at one input. -/
def scaleValuesWrong : ChangeSpec := { name := "scaleValues", fn := fun _ => fun
  | [d1, d2] => { results := [.lit (.bool false)], args := [d1, d2] }
  | _ => none }
def ScaleValuesWrongFalsely : Prop := scaleValuesRow.holds Try.pinned (OpenSpec.ofChange scaleValuesWrong)

/-- 'overspilllaw12.ScaleBlocks': WHATEVER THE INPUT: true; the input reads as it did. -/
def scaleBlocksSpec : ChangeSpec := { name := "scaleBlocks", fn := fun _ => fun
  | [d1, d2, d3] => { results := [.lit (.bool true)], args := [d1, d2, d3] }
  | _ => none }
def scaleBlocksRow : OpenClaim := { program := "ytifdbmkmicaneaa", sum := "26460d35fcaf3a769d2d8b03c040214da92e93034f1e5dac686a5c7419ace98b", func := "overspill/overspilllaw12.ScaleBlocks", spec := "scaleBlocks", apart := false }
def ScaleBlocksSaid : Prop := scaleBlocksRow.holds Try.pinned (OpenSpec.ofChange scaleBlocksSpec)

/-- ITS FALSE NEIGHBOUR: 'it returns false'. Refute it at one input. -/
def scaleBlocksWrong : ChangeSpec := { name := "scaleBlocks", fn := fun _ => fun
  | [d1, d2, d3] => { results := [.lit (.bool false)], args := [d1, d2, d3] }
  | _ => none }
def ScaleBlocksWrongFalsely : Prop := scaleBlocksRow.holds Try.pinned (OpenSpec.ofChange scaleBlocksWrong)

/-- 'overspilllaw12.ScaleRises': WHATEVER THE INPUT: true; the input reads as it did. -/
def scaleRisesSpec : ChangeSpec := { name := "scaleRises", fn := fun _ => fun
  | [d1, d2, d3] => { results := [.lit (.bool true)], args := [d1, d2, d3] }
  | _ => none }
def scaleRisesRow : OpenClaim := { program := "ytifdbmkmicaneaa", sum := "26460d35fcaf3a769d2d8b03c040214da92e93034f1e5dac686a5c7419ace98b", func := "overspill/overspilllaw12.ScaleRises", spec := "scaleRises", apart := false }
def ScaleRisesSaid : Prop := scaleRisesRow.holds Try.pinned (OpenSpec.ofChange scaleRisesSpec)

/-- ITS FALSE NEIGHBOUR: 'it returns false'. Refute it at one input. -/
def scaleRisesWrong : ChangeSpec := { name := "scaleRises", fn := fun _ => fun
  | [d1, d2, d3] => { results := [.lit (.bool false)], args := [d1, d2, d3] }
  | _ => none }
def ScaleRisesWrongFalsely : Prop := scaleRisesRow.holds Try.pinned (OpenSpec.ofChange scaleRisesWrong)

/- THE SECOND FORM. 'bulk': how many values and letters a reading holds, each counted each time it is reached (what is shared counts as often as it is met; a slice's spare places count too). A statement '..UptoSaid' is the law's where the arguments, and the package variables that the reading takes, are together of bulk at most 1048576: NARROWER than '..Said'. Prove '..Said' where nothing that the law and all that it calls make is longer than what came in: it says more and counts as full. Else prove '..UptoSaid'. A law counts once. -/
mutual
def uptoBulk {H : Type} : DataW H → Nat
  | .lit (.string bytes) => bytes.length + 1
  | .lit _ => 1
  | .nil => 1
  | .ptr d => uptoBulk d + 1
  | .slice elems spare => uptoBulkAll elems + uptoBulkAll spare + 1
  | .agg parts => uptoBulkAll parts + 1
  | .iface _ d => uptoBulk d + 1
  | .map entries => uptoBulkEntries entries + 1
  | .held _ => 1
def uptoBulkAll {H : Type} : List (DataW H) → Nat
  | [] => 0
  | d :: r => uptoBulk d + uptoBulkAll r
def uptoBulkEntries {H : Type} : List (Lit × DataW H) → Nat
  | [] => 0
  | x :: r => uptoBulkEntry x + uptoBulkEntries r
def uptoBulkEntry {H : Type} : Lit × DataW H → Nat
  | (.string bytes, d) => bytes.length + uptoBulk d + 1
  | (_, d) => uptoBulk d + 1
 end
def uptoSmall : (H : Type) → List (DataW H) → Bool := fun _ ds => decide (uptoBulkAll ds ≤ 1048576)
def OpenSpec.upto (s : _root_.Go.ChangeSpec) : _root_.Go.OpenSpec := { _root_.Go.OpenSpec.ofChange s with cond := some uptoSmall }

/-- 'overspilllaw12.ScaleValues', WHERE WHAT IT READS IS OF BULK AT MOST 1048576: true; the input reads as it did. -/
def scaleValuesUptoRow : OpenClaim := { program := "ytifdbmkmicaneaa", sum := "26460d35fcaf3a769d2d8b03c040214da92e93034f1e5dac686a5c7419ace98b", func := "overspill/overspilllaw12.ScaleValues", spec := "scaleValues", apart := false, narrowed := true }
def ScaleValuesUptoSaid : Prop := scaleValuesUptoRow.holds Try.pinned (OpenSpec.upto scaleValuesSpec)

/-- 'overspilllaw12.ScaleBlocks', WHERE WHAT IT READS IS OF BULK AT MOST 1048576: true; the input reads as it did. -/
def scaleBlocksUptoRow : OpenClaim := { program := "ytifdbmkmicaneaa", sum := "26460d35fcaf3a769d2d8b03c040214da92e93034f1e5dac686a5c7419ace98b", func := "overspill/overspilllaw12.ScaleBlocks", spec := "scaleBlocks", apart := false, narrowed := true }
def ScaleBlocksUptoSaid : Prop := scaleBlocksUptoRow.holds Try.pinned (OpenSpec.upto scaleBlocksSpec)

/-- 'overspilllaw12.ScaleRises', WHERE WHAT IT READS IS OF BULK AT MOST 1048576: true; the input reads as it did. -/
def scaleRisesUptoRow : OpenClaim := { program := "ytifdbmkmicaneaa", sum := "26460d35fcaf3a769d2d8b03c040214da92e93034f1e5dac686a5c7419ace98b", func := "overspill/overspilllaw12.ScaleRises", spec := "scaleRises", apart := false, narrowed := true }
def ScaleRisesUptoSaid : Prop := scaleRisesUptoRow.holds Try.pinned (OpenSpec.upto scaleRisesSpec)

end Rows
end Go.Proofs.Ytifdbmkmicaneaa
