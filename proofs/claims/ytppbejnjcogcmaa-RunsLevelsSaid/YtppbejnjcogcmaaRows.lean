/-
  No cell of these rows narrows 'for every input' (looked for: loops, veiled, ifaces, maps, wideKeys, modest, calm, conditions, laid).
  DERIVED. THE GIVEN ROWS OF THIS SEAT. 3 by the template 'for every input the law returns true; each argument reads behind the call as it read before'; 0 by the template 'total and deterministic' (their statements: YtppbejnjcogcmaaTotals.lean).
  GIVEN WITH THE SEED: the statements are not yours to turn. If you find one false, say at which input.
  Laid BY PROGRAM, IN A SANDBOX (cutbox-rows.mjs): the forced cells as the released guide's own fill.sh prints them over the translation 837d53cec42f2665… (all of the seat's roots in one cut). By AI agents, Wed Nov 11 2026. No macro, syntax, notation, axiom, sorry.
-/
import Derived.Test.YtppbejnjcogcmaaChecked
import GoSem.Claim
import GoSem.ClaimJoined
import GoSem.ClaimMapViews
import Derived.JoinedTies
import Derived.KernelRfl
namespace Go.Proofs.Ytppbejnjcogcmaa
/- THE CELL 'sum', in the pinned program and in every row, IS THE sha256 OF THE DUMP (.gsa) THAT YtppbejnjcogcmaaProg.lean LOADS. Nothing in Lean hashes anything: it is a label: what it is worth is what the hold of that sum in a sandbox is worth. -/
noncomputable def Try.pinned : Pinned := { name := "ytppbejnjcogcmaa", sum := "837d53cec42f26656c2718d3dcc884baaf249aed16da28b5e760541b9cba0b34", checked := Try.checked }
namespace Rows
def none {H : Type} : Left H := { results := [], args := [] }

/-- 'overspilllaw10.RunsEvents': WHATEVER THE INPUT: true; the input reads as it did. -/
def runsEventsSpec : ChangeSpec := { name := "runsEvents", fn := fun _ => fun
  | [d1, d2] => { results := [.lit (.bool true)], args := [d1, d2] }
  | _ => none }
def runsEventsRow : OpenClaim := { program := "ytppbejnjcogcmaa", sum := "837d53cec42f26656c2718d3dcc884baaf249aed16da28b5e760541b9cba0b34", func := "overspill/overspilllaw10.RunsEvents", spec := "runsEvents", apart := false }
def RunsEventsSaid : Prop := runsEventsRow.holds Try.pinned (OpenSpec.ofChange runsEventsSpec)

/-- ITS FALSE NEIGHBOUR: 'it returns false'. Refute it at one input. -/
def runsEventsWrong : ChangeSpec := { name := "runsEvents", fn := fun _ => fun
  | [d1, d2] => { results := [.lit (.bool false)], args := [d1, d2] }
  | _ => none }
def RunsEventsWrongFalsely : Prop := runsEventsRow.holds Try.pinned (OpenSpec.ofChange runsEventsWrong)

/-- 'overspilllaw10.RunsLevels': WHATEVER THE INPUT: true; the input reads as it did. -/
def runsLevelsSpec : ChangeSpec := { name := "runsLevels", fn := fun _ => fun
  | [d1, d2] => { results := [.lit (.bool true)], args := [d1, d2] }
  | _ => none }
def runsLevelsRow : OpenClaim := { program := "ytppbejnjcogcmaa", sum := "837d53cec42f26656c2718d3dcc884baaf249aed16da28b5e760541b9cba0b34", func := "overspill/overspilllaw10.RunsLevels", spec := "runsLevels", apart := false }
def RunsLevelsSaid : Prop := runsLevelsRow.holds Try.pinned (OpenSpec.ofChange runsLevelsSpec)

/-- ITS FALSE NEIGHBOUR: 'it returns false'. Refute it at one input. -/
def runsLevelsWrong : ChangeSpec := { name := "runsLevels", fn := fun _ => fun
  | [d1, d2] => { results := [.lit (.bool false)], args := [d1, d2] }
  | _ => none }
def RunsLevelsWrongFalsely : Prop := runsLevelsRow.holds Try.pinned (OpenSpec.ofChange runsLevelsWrong)

/-- 'overspilllaw10.RunsBack': WHATEVER THE INPUT: true; the input reads as it did. -/
def runsBackSpec : ChangeSpec := { name := "runsBack", fn := fun _ => fun
  | [d1, d2, d3] => { results := [.lit (.bool true)], args := [d1, d2, d3] }
  | _ => none }
def runsBackRow : OpenClaim := { program := "ytppbejnjcogcmaa", sum := "837d53cec42f26656c2718d3dcc884baaf249aed16da28b5e760541b9cba0b34", func := "overspill/overspilllaw10.RunsBack", spec := "runsBack", apart := false }
def RunsBackSaid : Prop := runsBackRow.holds Try.pinned (OpenSpec.ofChange runsBackSpec)

/-- ITS FALSE NEIGHBOUR: 'it returns false'. Refute it at one input. -/
def runsBackWrong : ChangeSpec := { name := "runsBack", fn := fun _ => fun
  | [d1, d2, d3] => { results := [.lit (.bool false)], args := [d1, d2, d3] }
  | _ => none }
def RunsBackWrongFalsely : Prop := runsBackRow.holds Try.pinned (OpenSpec.ofChange runsBackWrong)

/- THE SECOND FORM. 'bulk': how many values and letters a reading holds, each counted each time it is reached (what is shared counts as often as it is met; a slice's spare places count too). A statement '..UptoSaid' is the law's where the arguments, and the package variables that the reading takes, are together of bulk at most 1048576: NARROWER than '..Said'. Prove '..Said' where nothing that the law and all that it calls make is longer than what came in: it says more and counts as full. Else prove '..UptoSaid'. A law counts once. -/
mutual
def uptoBulk {H : Type} : DataW H → Nat
  | .lit (.string bytes) => bytes.length + 1
  | .lit _ => 1
  | .nil => 1
  | .ptr d => uptoBulk d + 1
  | .slice elems spare => uptoBulkAll elems + uptoBulkAll spare + 1
  | .agg parts => uptoBulkAll parts + 1
  | .iface _ d => uptoBulk d + 1
  | .map entries => uptoBulkEntries entries + 1
  | .held _ => 1
def uptoBulkAll {H : Type} : List (DataW H) → Nat
  | [] => 0
  | d :: r => uptoBulk d + uptoBulkAll r
def uptoBulkEntries {H : Type} : List (Lit × DataW H) → Nat
  | [] => 0
  | x :: r => uptoBulkEntry x + uptoBulkEntries r
def uptoBulkEntry {H : Type} : Lit × DataW H → Nat
  | (.string bytes, d) => bytes.length + uptoBulk d + 1
  | (_, d) => uptoBulk d + 1
 end
def uptoSmall : (H : Type) → List (DataW H) → Bool := fun _ ds => decide (uptoBulkAll ds ≤ 1048576)
def OpenSpec.upto (s : _root_.Go.ChangeSpec) : _root_.Go.OpenSpec := { _root_.Go.OpenSpec.ofChange s with cond := some uptoSmall }

/-- 'overspilllaw10.RunsEvents', WHERE WHAT IT READS IS OF BULK AT MOST 1048576: true; the input reads as it did. -/
def runsEventsUptoRow : OpenClaim := { program := "ytppbejnjcogcmaa", sum := "837d53cec42f26656c2718d3dcc884baaf249aed16da28b5e760541b9cba0b34", func := "overspill/overspilllaw10.RunsEvents", spec := "runsEvents", apart := false, narrowed := true }
def RunsEventsUptoSaid : Prop := runsEventsUptoRow.holds Try.pinned (OpenSpec.upto runsEventsSpec)

/-- 'overspilllaw10.RunsLevels', WHERE WHAT IT READS IS OF BULK AT MOST 1048576: true; the input reads as it did. -/
def runsLevelsUptoRow : OpenClaim := { program := "ytppbejnjcogcmaa", sum := "837d53cec42f26656c2718d3dcc884baaf249aed16da28b5e760541b9cba0b34", func := "overspill/overspilllaw10.RunsLevels", spec := "runsLevels", apart := false, narrowed := true }
def RunsLevelsUptoSaid : Prop := runsLevelsUptoRow.holds Try.pinned (OpenSpec.upto runsLevelsSpec)

/-- 'overspilllaw10.RunsBack', WHERE WHAT IT READS IS OF BULK AT MOST 1048576: true; the input reads as it did. -/
def runsBackUptoRow : OpenClaim := { program := "ytppbejnjcogcmaa", sum := "837d53cec42f26656c2718d3dcc884baaf249aed16da28b5e760541b9cba0b34", func := "overspill/overspilllaw10.RunsBack", spec := "runsBack", apart := false, narrowed := true }
def RunsBackUptoSaid : Prop := runsBackUptoRow.holds Try.pinned (OpenSpec.upto runsBackSpec)

end Rows
end Go.Proofs.Ytppbejnjcogcmaa
