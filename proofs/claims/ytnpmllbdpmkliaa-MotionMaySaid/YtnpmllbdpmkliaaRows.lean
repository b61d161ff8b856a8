/-
  No cell of these rows narrows 'for every input' (looked for: loops, veiled, ifaces, maps, wideKeys, modest, calm, conditions, laid).
  DERIVED. THE GIVEN ROWS OF THIS SEAT. 3 by the template 'for every input the law returns true; each argument reads behind the call as it read before'; 0 by the template 'total and deterministic' (their statements: YtnpmllbdpmkliaaTotals.lean).
  GIVEN WITH THE SEED: the statements are not yours to turn. If you find one false, say at which input.
  Laid BY PROGRAM, IN A SANDBOX (cutbox-rows.mjs): the forced cells as the released guide's own fill.sh prints them over the translation 0fc029176af2a1e9… (all of the seat's roots in one cut). By AI agents, Wed Nov 11 2026. No macro, syntax, notation, axiom, sorry.
-/
import Derived.Test.YtnpmllbdpmkliaaChecked
import GoSem.Claim
import GoSem.ClaimJoined
import GoSem.ClaimMapViews
import Derived.JoinedTies
import Derived.KernelRfl
namespace Go.Proofs.Ytnpmllbdpmkliaa
/- THE CELL 'sum', in the pinned program and in every row, IS THE sha256 OF THE DUMP (.gsa) THAT YtnpmllbdpmkliaaProg.lean LOADS. Nothing in Lean hashes anything: it is a label: what it is worth is what the hold of that sum in a sandbox is worth. -/
noncomputable def Try.pinned : Pinned := { name := "ytnpmllbdpmkliaa", sum := "0fc029176af2a1e9e904e8cad79c3364e6e6a1eb51e616e4b18e1e767f84daf1", checked := Try.checked }
namespace Rows
def none {H : Type} : Left H := { results := [], args := [] }

/-- 'overspilllaw18.MotionMay': WHATEVER THE INPUT: true; the input reads as it did. -/
def motionMaySpec : ChangeSpec := { name := "motionMay", fn := fun _ => fun
  | [d1, d2, d3] => { results := [.lit (.bool true)], args := [d1, d2, d3] }
  | _ => none }
def motionMayRow : OpenClaim := { program := "ytnpmllbdpmkliaa", sum := "0fc029176af2a1e9e904e8cad79c3364e6e6a1eb51e616e4b18e1e767f84daf1", func := "overspill/overspilllaw18.MotionMay", spec := "motionMay", recurses := true, apart := false }
def MotionMaySaid : Prop := motionMayRow.holds Try.pinned (OpenSpec.ofChange motionMaySpec)

/-- ITS FALSE NEIGHBOUR: 'it returns false'. Refute it at one input. -/
def motionMayWrong : ChangeSpec := { name := "motionMay", fn := fun _ => fun
  | [d1, d2, d3] => { results := [.lit (.bool false)], args := [d1, d2, d3] }
  | _ => none }
def MotionMayWrongFalsely : Prop := motionMayRow.holds Try.pinned (OpenSpec.ofChange motionMayWrong)

/-- 'overspilllaw18.MotionPredicts': WHATEVER THE INPUT: true; the input reads as it did. -/
def motionPredictsSpec : ChangeSpec := { name := "motionPredicts", fn := fun _ => fun
  | [d1, d2, d3] => { results := [.lit (.bool true)], args := [d1, d2, d3] }
  | _ => none }
def motionPredictsRow : OpenClaim := { program := "ytnpmllbdpmkliaa", sum := "0fc029176af2a1e9e904e8cad79c3364e6e6a1eb51e616e4b18e1e767f84daf1", func := "overspill/overspilllaw18.MotionPredicts", spec := "motionPredicts", unfollowed := true, recurses := true, apart := false }
def MotionPredictsSaid : Prop := motionPredictsRow.holds Try.pinned (OpenSpec.ofChange motionPredictsSpec)

/-- ITS FALSE NEIGHBOUR: 'it returns false'. Refute it at one input. -/
def motionPredictsWrong : ChangeSpec := { name := "motionPredicts", fn := fun _ => fun
  | [d1, d2, d3] => { results := [.lit (.bool false)], args := [d1, d2, d3] }
  | _ => none }
def MotionPredictsWrongFalsely : Prop := motionPredictsRow.holds Try.pinned (OpenSpec.ofChange motionPredictsWrong)

/-- 'overspilllaw18.MotionStill': WHATEVER THE INPUT: true; the input reads as it did. -/
def motionStillSpec : ChangeSpec := { name := "motionStill", fn := fun _ => fun
  | [d1, d2, d3] => { results := [.lit (.bool true)], args := [d1, d2, d3] }
  | _ => none }
def motionStillRow : OpenClaim := { program := "ytnpmllbdpmkliaa", sum := "0fc029176af2a1e9e904e8cad79c3364e6e6a1eb51e616e4b18e1e767f84daf1", func := "overspill/overspilllaw18.MotionStill", spec := "motionStill", inPlace := ["internal/bytealg.MakeNoZero"], unfollowed := true, recurses := true, apart := false }
def MotionStillSaid : Prop := motionStillRow.holds Try.pinned (OpenSpec.ofChange motionStillSpec)

/-- ITS FALSE NEIGHBOUR: 'it returns false'. Refute it at one input. -/
def motionStillWrong : ChangeSpec := { name := "motionStill", fn := fun _ => fun
  | [d1, d2, d3] => { results := [.lit (.bool false)], args := [d1, d2, d3] }
  | _ => none }
def MotionStillWrongFalsely : Prop := motionStillRow.holds Try.pinned (OpenSpec.ofChange motionStillWrong)

/- THE SECOND FORM. 'bulk': how many values and letters a reading holds, each counted each time it is reached (what is shared counts as often as it is met; a slice's spare places count too). A statement '..UptoSaid' is the law's where the arguments, and the package variables that the reading takes, are together of bulk at most 1048576: NARROWER than '..Said'. Prove '..Said' where nothing that the law and all that it calls make is longer than what came in: it says more and counts as full. Else prove '..UptoSaid'. A law counts once. -/
mutual
def uptoBulk {H : Type} : DataW H → Nat
  | .lit (.string bytes) => bytes.length + 1
  | .lit _ => 1
  | .nil => 1
  | .ptr d => uptoBulk d + 1
  | .slice elems spare => uptoBulkAll elems + uptoBulkAll spare + 1
  | .agg parts => uptoBulkAll parts + 1
  | .iface _ d => uptoBulk d + 1
  | .map entries => uptoBulkEntries entries + 1
  | .held _ => 1
def uptoBulkAll {H : Type} : List (DataW H) → Nat
  | [] => 0
  | d :: r => uptoBulk d + uptoBulkAll r
def uptoBulkEntries {H : Type} : List (Lit × DataW H) → Nat
  | [] => 0
  | x :: r => uptoBulkEntry x + uptoBulkEntries r
def uptoBulkEntry {H : Type} : Lit × DataW H → Nat
  | (.string bytes, d) => bytes.length + uptoBulk d + 1
  | (_, d) => uptoBulk d + 1
 end
def uptoSmall : (H : Type) → List (DataW H) → Bool := fun _ ds => decide (uptoBulkAll ds ≤ 1048576)
def OpenSpec.upto (s : _root_.Go.ChangeSpec) : _root_.Go.OpenSpec := { _root_.Go.OpenSpec.ofChange s with cond := some uptoSmall }

/-- 'overspilllaw18.MotionMay', WHERE WHAT IT READS IS OF BULK AT MOST 1048576: true; the input reads as it did. -/
def motionMayUptoRow : OpenClaim := { program := "ytnpmllbdpmkliaa", sum := "0fc029176af2a1e9e904e8cad79c3364e6e6a1eb51e616e4b18e1e767f84daf1", func := "overspill/overspilllaw18.MotionMay", spec := "motionMay", recurses := true, apart := false, narrowed := true }
def MotionMayUptoSaid : Prop := motionMayUptoRow.holds Try.pinned (OpenSpec.upto motionMaySpec)

/-- 'overspilllaw18.MotionPredicts', WHERE WHAT IT READS IS OF BULK AT MOST 1048576: true; the input reads as it did. -/
def motionPredictsUptoRow : OpenClaim := { program := "ytnpmllbdpmkliaa", sum := "0fc029176af2a1e9e904e8cad79c3364e6e6a1eb51e616e4b18e1e767f84daf1", func := "overspill/overspilllaw18.MotionPredicts", spec := "motionPredicts", unfollowed := true, recurses := true, apart := false, narrowed := true }
def MotionPredictsUptoSaid : Prop := motionPredictsUptoRow.holds Try.pinned (OpenSpec.upto motionPredictsSpec)

/-- 'overspilllaw18.MotionStill', WHERE WHAT IT READS IS OF BULK AT MOST 1048576: true; the input reads as it did. -/
def motionStillUptoRow : OpenClaim := { program := "ytnpmllbdpmkliaa", sum := "0fc029176af2a1e9e904e8cad79c3364e6e6a1eb51e616e4b18e1e767f84daf1", func := "overspill/overspilllaw18.MotionStill", spec := "motionStill", inPlace := ["internal/bytealg.MakeNoZero"], unfollowed := true, recurses := true, apart := false, narrowed := true }
def MotionStillUptoSaid : Prop := motionStillUptoRow.holds Try.pinned (OpenSpec.upto motionStillSpec)

end Rows
end Go.Proofs.Ytnpmllbdpmkliaa
