/-
  No cell of these rows narrows 'for every input' (looked for: loops, veiled, ifaces, maps, wideKeys, modest, calm, conditions, laid).
  DERIVED. THE GIVEN ROWS OF THIS SEAT. 4 by the template 'for every input the law returns true; each argument reads behind the call as it read before'; 0 by the template 'total and deterministic' (their statements: YtmmgbnjfbapmcaaTotals.lean).
  GIVEN WITH THE SEED: the statements are not yours to turn. If you find one false, say at which input.
  Laid BY PROGRAM, IN A SANDBOX (cutbox-rows.mjs): the forced cells as the released guide's own fill.sh prints them over the translation 0753240ac8d2c1af… (all of the seat's roots in one cut). By AI agents, Wed Nov 11 2026. No macro, syntax, notation, axiom, sorry.
-/
import Derived.Test.YtmmgbnjfbapmcaaChecked
import GoSem.Claim
import GoSem.ClaimJoined
import GoSem.ClaimMapViews
import Derived.JoinedTies
import Derived.KernelRfl
namespace Go.Proofs.Ytmmgbnjfbapmcaa
/- THE CELL 'sum', in the pinned program and in every row, IS THE sha256 OF THE DUMP (.gsa) THAT YtmmgbnjfbapmcaaProg.lean LOADS. Nothing in Lean hashes anything: it is a label: what it is worth is what the hold of that sum in a sandbox is worth. -/
noncomputable def Try.pinned : Pinned := { name := "ytmmgbnjfbapmcaa", sum := "0753240ac8d2c1af375b9e126a7bdbaeb6eee47baad961f7e7c59499171e56e1", checked := Try.checked }
namespace Rows
def none {H : Type} : Left H := { results := [], args := [] }

/-- 'overspilllaw17.PlanesNew': WHATEVER THE INPUT: true; the input reads as it did. -/
def planesNewSpec : ChangeSpec := { name := "planesNew", fn := fun _ => fun
  | [d1, d2, d3] => { results := [.lit (.bool true)], args := [d1, d2, d3] }
  | _ => none }
def planesNewRow : OpenClaim := { program := "ytmmgbnjfbapmcaa", sum := "0753240ac8d2c1af375b9e126a7bdbaeb6eee47baad961f7e7c59499171e56e1", func := "overspill/overspilllaw17.PlanesNew", spec := "planesNew", inPlace := ["internal/bytealg.MakeNoZero"], apart := false }
def PlanesNewSaid : Prop := planesNewRow.holds Try.pinned (OpenSpec.ofChange planesNewSpec)

/-- ITS FALSE NEIGHBOUR: 'it returns false'. Refute it at one input. -/
def planesNewWrong : ChangeSpec := { name := "planesNew", fn := fun _ => fun
  | [d1, d2, d3] => { results := [.lit (.bool false)], args := [d1, d2, d3] }
  | _ => none }
def PlanesNewWrongFalsely : Prop := planesNewRow.holds Try.pinned (OpenSpec.ofChange planesNewWrong)

/-- 'overspilllaw17.PlanesCuts': WHATEVER THE INPUT: true; the input reads as it did. -/
def planesCutsSpec : ChangeSpec := { name := "planesCuts", fn := fun _ => fun
  | [d1, d2] => { results := [.lit (.bool true)], args := [d1, d2] }
  | _ => none }
def planesCutsRow : OpenClaim := { program := "ytmmgbnjfbapmcaa", sum := "0753240ac8d2c1af375b9e126a7bdbaeb6eee47baad961f7e7c59499171e56e1", func := "overspill/overspilllaw17.PlanesCuts", spec := "planesCuts", inPlace := ["internal/bytealg.MakeNoZero"], apart := false }
def PlanesCutsSaid : Prop := planesCutsRow.holds Try.pinned (OpenSpec.ofChange planesCutsSpec)

/-- ITS FALSE NEIGHBOUR: 'it returns false'. Refute it at one input. -/
def planesCutsWrong : ChangeSpec := { name := "planesCuts", fn := fun _ => fun
  | [d1, d2] => { results := [.lit (.bool false)], args := [d1, d2] }
  | _ => none }
def PlanesCutsWrongFalsely : Prop := planesCutsRow.holds Try.pinned (OpenSpec.ofChange planesCutsWrong)

/-- 'overspilllaw17.PlanesLays': WHATEVER THE INPUT: true; the input reads as it did. -/
def planesLaysSpec : ChangeSpec := { name := "planesLays", fn := fun _ => fun
  | [d1, d2] => { results := [.lit (.bool true)], args := [d1, d2] }
  | _ => none }
def planesLaysRow : OpenClaim := { program := "ytmmgbnjfbapmcaa", sum := "0753240ac8d2c1af375b9e126a7bdbaeb6eee47baad961f7e7c59499171e56e1", func := "overspill/overspilllaw17.PlanesLays", spec := "planesLays", inPlace := ["internal/bytealg.MakeNoZero"], apart := false }
def PlanesLaysSaid : Prop := planesLaysRow.holds Try.pinned (OpenSpec.ofChange planesLaysSpec)

/-- ITS FALSE NEIGHBOUR: 'it returns false'. Refute it at one input. -/
def planesLaysWrong : ChangeSpec := { name := "planesLays", fn := fun _ => fun
  | [d1, d2] => { results := [.lit (.bool false)], args := [d1, d2] }
  | _ => none }
def PlanesLaysWrongFalsely : Prop := planesLaysRow.holds Try.pinned (OpenSpec.ofChange planesLaysWrong)

/-- 'overspilllaw17.PlanesBack': WHATEVER THE INPUT: true; the input reads as it did. -/
def planesBackSpec : ChangeSpec := { name := "planesBack", fn := fun _ => fun
  | [d1, d2] => { results := [.lit (.bool true)], args := [d1, d2] }
  | _ => none }
def planesBackRow : OpenClaim := { program := "ytmmgbnjfbapmcaa", sum := "0753240ac8d2c1af375b9e126a7bdbaeb6eee47baad961f7e7c59499171e56e1", func := "overspill/overspilllaw17.PlanesBack", spec := "planesBack", inPlace := ["internal/bytealg.MakeNoZero"], apart := false }
def PlanesBackSaid : Prop := planesBackRow.holds Try.pinned (OpenSpec.ofChange planesBackSpec)

/-- ITS FALSE NEIGHBOUR: 'it returns false'. Refute it at one input. -/
def planesBackWrong : ChangeSpec := { name := "planesBack", fn := fun _ => fun
  | [d1, d2] => { results := [.lit (.bool false)], args := [d1, d2] }
  | _ => none }
def PlanesBackWrongFalsely : Prop := planesBackRow.holds Try.pinned (OpenSpec.ofChange planesBackWrong)

/- THE SECOND FORM. 'bulk': how many values and letters a reading holds, each counted each time it is reached (what is shared counts as often as it is met; a slice's spare places count too). A statement '..UptoSaid' is the law's where the arguments, and the package variables that the reading takes, are together of bulk at most 1048576: NARROWER than '..Said'. Prove '..Said' where nothing that the law and all that it calls make is longer than what came in: it says more and counts as full. Else prove '..UptoSaid'. A law counts once. -/
mutual
def uptoBulk {H : Type} : DataW H → Nat
  | .lit (.string bytes) => bytes.length + 1
  | .lit _ => 1
  | .nil => 1
  | .ptr d => uptoBulk d + 1
  | .slice elems spare => uptoBulkAll elems + uptoBulkAll spare + 1
  | .agg parts => uptoBulkAll parts + 1
  | .iface _ d => uptoBulk d + 1
  | .map entries => uptoBulkEntries entries + 1
  | .held _ => 1
def uptoBulkAll {H : Type} : List (DataW H) → Nat
  | [] => 0
  | d :: r => uptoBulk d + uptoBulkAll r
def uptoBulkEntries {H : Type} : List (Lit × DataW H) → Nat
  | [] => 0
  | x :: r => uptoBulkEntry x + uptoBulkEntries r
def uptoBulkEntry {H : Type} : Lit × DataW H → Nat
  | (.string bytes, d) => bytes.length + uptoBulk d + 1
  | (_, d) => uptoBulk d + 1
 end
def uptoSmall : (H : Type) → List (DataW H) → Bool := fun _ ds => decide (uptoBulkAll ds ≤ 1048576)
def OpenSpec.upto (s : _root_.Go.ChangeSpec) : _root_.Go.OpenSpec := { _root_.Go.OpenSpec.ofChange s with cond := some uptoSmall }

/-- 'overspilllaw17.PlanesNew', WHERE WHAT IT READS IS OF BULK AT MOST 1048576: true; the input reads as it did. -/
def planesNewUptoRow : OpenClaim := { program := "ytmmgbnjfbapmcaa", sum := "0753240ac8d2c1af375b9e126a7bdbaeb6eee47baad961f7e7c59499171e56e1", func := "overspill/overspilllaw17.PlanesNew", spec := "planesNew", inPlace := ["internal/bytealg.MakeNoZero"], apart := false, narrowed := true }
def PlanesNewUptoSaid : Prop := planesNewUptoRow.holds Try.pinned (OpenSpec.upto planesNewSpec)

/-- 'overspilllaw17.PlanesCuts', WHERE WHAT IT READS IS OF BULK AT MOST 1048576: true; the input reads as it did. -/
def planesCutsUptoRow : OpenClaim := { program := "ytmmgbnjfbapmcaa", sum := "0753240ac8d2c1af375b9e126a7bdbaeb6eee47baad961f7e7c59499171e56e1", func := "overspill/overspilllaw17.PlanesCuts", spec := "planesCuts", inPlace := ["internal/bytealg.MakeNoZero"], apart := false, narrowed := true }
def PlanesCutsUptoSaid : Prop := planesCutsUptoRow.holds Try.pinned (OpenSpec.upto planesCutsSpec)

/-- 'overspilllaw17.PlanesLays', WHERE WHAT IT READS IS OF BULK AT MOST 1048576: true; the input reads as it did. -/
def planesLaysUptoRow : OpenClaim := { program := "ytmmgbnjfbapmcaa", sum := "0753240ac8d2c1af375b9e126a7bdbaeb6eee47baad961f7e7c59499171e56e1", func := "overspill/overspilllaw17.PlanesLays", spec := "planesLays", inPlace := ["internal/bytealg.MakeNoZero"], apart := false, narrowed := true }
def PlanesLaysUptoSaid : Prop := planesLaysUptoRow.holds Try.pinned (OpenSpec.upto planesLaysSpec)

/-- 'overspilllaw17.PlanesBack', WHERE WHAT IT READS IS OF BULK AT MOST 1048576: true; the input reads as it did. -/
def planesBackUptoRow : OpenClaim := { program := "ytmmgbnjfbapmcaa", sum := "0753240ac8d2c1af375b9e126a7bdbaeb6eee47baad961f7e7c59499171e56e1", func := "overspill/overspilllaw17.PlanesBack", spec := "planesBack", inPlace := ["internal/bytealg.MakeNoZero"], apart := false, narrowed := true }
def PlanesBackUptoSaid : Prop := planesBackUptoRow.holds Try.pinned (OpenSpec.upto planesBackSpec)

end Rows
end Go.Proofs.Ytmmgbnjfbapmcaa
