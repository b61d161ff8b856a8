/-
  NARROWER THAN 'FOR EVERY INPUT', by the rows' own cells (each row's printed sentence says how): ScanAt: laid · ScanTurns: laid · ScanLater: laid.
  DERIVED. THE GIVEN ROWS OF THIS SEAT. 3 by the template 'for every input the law returns true; each argument reads behind the call as it read before'; 0 by the template 'total and deterministic' (their statements: YtefoiijpgpjooaaDoorTotals.lean).
  GIVEN WITH THE SEED: the statements are not yours to turn. If you find one false, say at which input.
  Laid BY PROGRAM, IN A SANDBOX (cutbox-rows.mjs): the forced cells as the released guide's own fill.sh prints them over the translation 667792842f356b85… (all of the seat's roots in one cut). By AI agents, Wed Nov 11 2026. No macro, syntax, notation, axiom, sorry.
-/
import Derived.Test.YtefoiijpgpjooaaDoorChecked
import GoSem.Claim
import GoSem.ClaimJoined
import GoSem.ClaimMapViews
import Derived.JoinedTies
import Derived.KernelRfl
namespace Go.Proofs.YtefoiijpgpjooaaDoor
/- THE CELL 'sum', in the pinned program and in every row, IS THE sha256 OF THE DUMP (.gsa) THAT YtefoiijpgpjooaaDoorProg.lean LOADS. Nothing in Lean hashes anything: it is a label: what it is worth is what the hold of that sum in a sandbox is worth. -/
noncomputable def Tryd.pinned : Pinned := { name := "ytefoiijpgpjooaadoor", sum := "667792842f356b85b9d236fc127934131dd2a7bb7dd9c2f391fb28bdcf88d7c1", checked := Tryd.checked }
namespace Rows
def none {H : Type} : Left H := { results := [], args := [] }

/- WHAT THE LISTED PACKAGE-LEVEL VARIABLES READ AS WHEN THE CALL BEGINS. Each datum BY PROGRAM (the guide's laid-datum.mjs) off the statement by which the dump's own 'gosem.cut.vars' lays the variable. In a bare row this is a premise. The card (YtefoiijpgpjooaaDoorCards.lean) ties it to the program's text. -/
def laid_overspill_scan_places {H : Type} : DataW H := .agg [.lit (.int .i64 0), .lit (.int .i64 1), .lit (.int .i64 8), .lit (.int .i64 16), .lit (.int .i64 9), .lit (.int .i64 2), .lit (.int .i64 3), .lit (.int .i64 10), .lit (.int .i64 17), .lit (.int .i64 24), .lit (.int .i64 32), .lit (.int .i64 25), .lit (.int .i64 18), .lit (.int .i64 11), .lit (.int .i64 4), .lit (.int .i64 5), .lit (.int .i64 12), .lit (.int .i64 19), .lit (.int .i64 26), .lit (.int .i64 33), .lit (.int .i64 40), .lit (.int .i64 48), .lit (.int .i64 41), .lit (.int .i64 34), .lit (.int .i64 27), .lit (.int .i64 20), .lit (.int .i64 13), .lit (.int .i64 6), .lit (.int .i64 7), .lit (.int .i64 14), .lit (.int .i64 21), .lit (.int .i64 28), .lit (.int .i64 35), .lit (.int .i64 42), .lit (.int .i64 49), .lit (.int .i64 56), .lit (.int .i64 57), .lit (.int .i64 50), .lit (.int .i64 43), .lit (.int .i64 36), .lit (.int .i64 29), .lit (.int .i64 22), .lit (.int .i64 15), .lit (.int .i64 23), .lit (.int .i64 30), .lit (.int .i64 37), .lit (.int .i64 44), .lit (.int .i64 51), .lit (.int .i64 58), .lit (.int .i64 59), .lit (.int .i64 52), .lit (.int .i64 45), .lit (.int .i64 38), .lit (.int .i64 31), .lit (.int .i64 39), .lit (.int .i64 46), .lit (.int .i64 53), .lit (.int .i64 60), .lit (.int .i64 61), .lit (.int .i64 54), .lit (.int .i64 47), .lit (.int .i64 55), .lit (.int .i64 62), .lit (.int .i64 63)]

/-- 'overspilllaw11.ScanAt': WHATEVER THE INPUT: true; the input reads as it did. -/
def scanAtSpec : ChangeSpec := { name := "scanAt", fn := fun _ => fun
  | [d] => { results := [.lit (.bool true)], args := [d] }
  | _ => none }
def scanAtRow : OpenClaim := { program := "ytefoiijpgpjooaadoor", sum := "667792842f356b85b9d236fc127934131dd2a7bb7dd9c2f391fb28bdcf88d7c1", func := "overspill/overspilllaw11.ScanAt", spec := "scanAt", named := ["overspill/scan.places"], apart := false, laid := [("overspill/scan.places", laid_overspill_scan_places)] }
def ScanAtSaid : Prop := scanAtRow.holds Tryd.pinned (OpenSpec.ofChange scanAtSpec)

/-- ITS FALSE NEIGHBOUR: 'it returns false'. Refute it at one input. -/
def scanAtWrong : ChangeSpec := { name := "scanAt", fn := fun _ => fun
  | [d] => { results := [.lit (.bool false)], args := [d] }
  | _ => none }
def ScanAtWrongFalsely : Prop := scanAtRow.holds Tryd.pinned (OpenSpec.ofChange scanAtWrong)

/-- 'overspilllaw11.ScanTurns': WHATEVER THE INPUT: true; the input reads as it did. -/
def scanTurnsSpec : ChangeSpec := { name := "scanTurns", fn := fun _ => fun
  | [d] => { results := [.lit (.bool true)], args := [d] }
  | _ => none }
def scanTurnsRow : OpenClaim := { program := "ytefoiijpgpjooaadoor", sum := "667792842f356b85b9d236fc127934131dd2a7bb7dd9c2f391fb28bdcf88d7c1", func := "overspill/overspilllaw11.ScanTurns", spec := "scanTurns", named := ["overspill/scan.places"], apart := false, laid := [("overspill/scan.places", laid_overspill_scan_places)] }
def ScanTurnsSaid : Prop := scanTurnsRow.holds Tryd.pinned (OpenSpec.ofChange scanTurnsSpec)

/-- ITS FALSE NEIGHBOUR: 'it returns false'. Refute it at one input. -/
def scanTurnsWrong : ChangeSpec := { name := "scanTurns", fn := fun _ => fun
  | [d] => { results := [.lit (.bool false)], args := [d] }
  | _ => none }
def ScanTurnsWrongFalsely : Prop := scanTurnsRow.holds Tryd.pinned (OpenSpec.ofChange scanTurnsWrong)

/-- 'overspilllaw11.ScanLater': WHATEVER THE INPUT: true; the input reads as it did. -/
def scanLaterSpec : ChangeSpec := { name := "scanLater", fn := fun _ => fun
  | [d1, d2, d3] => { results := [.lit (.bool true)], args := [d1, d2, d3] }
  | _ => none }
def scanLaterRow : OpenClaim := { program := "ytefoiijpgpjooaadoor", sum := "667792842f356b85b9d236fc127934131dd2a7bb7dd9c2f391fb28bdcf88d7c1", func := "overspill/overspilllaw11.ScanLater", spec := "scanLater", named := ["overspill/scan.places"], apart := false, laid := [("overspill/scan.places", laid_overspill_scan_places)] }
def ScanLaterSaid : Prop := scanLaterRow.holds Tryd.pinned (OpenSpec.ofChange scanLaterSpec)

/-- ITS FALSE NEIGHBOUR: 'it returns false'. Refute it at one input. -/
def scanLaterWrong : ChangeSpec := { name := "scanLater", fn := fun _ => fun
  | [d1, d2, d3] => { results := [.lit (.bool false)], args := [d1, d2, d3] }
  | _ => none }
def ScanLaterWrongFalsely : Prop := scanLaterRow.holds Tryd.pinned (OpenSpec.ofChange scanLaterWrong)

/- THE SECOND FORM. 'bulk': how many values and letters a reading holds, each counted each time it is reached (what is shared counts as often as it is met; a slice's spare places count too). A statement '..UptoSaid' is the law's where the arguments, and the package variables that the reading takes, are together of bulk at most 1048576: NARROWER than '..Said'. Prove '..Said' where nothing that the law and all that it calls make is longer than what came in: it says more and counts as full. Else prove '..UptoSaid'. A law counts once. -/
mutual
def uptoBulk {H : Type} : DataW H → Nat
  | .lit (.string bytes) => bytes.length + 1
  | .lit _ => 1
  | .nil => 1
  | .ptr d => uptoBulk d + 1
  | .slice elems spare => uptoBulkAll elems + uptoBulkAll spare + 1
  | .agg parts => uptoBulkAll parts + 1
  | .iface _ d => uptoBulk d + 1
  | .map entries => uptoBulkEntries entries + 1
  | .held _ => 1
def uptoBulkAll {H : Type} : List (DataW H) → Nat
  | [] => 0
  | d :: r => uptoBulk d + uptoBulkAll r
def uptoBulkEntries {H : Type} : List (Lit × DataW H) → Nat
  | [] => 0
  | x :: r => uptoBulkEntry x + uptoBulkEntries r
def uptoBulkEntry {H : Type} : Lit × DataW H → Nat
  | (.string bytes, d) => bytes.length + uptoBulk d + 1
  | (_, d) => uptoBulk d + 1
 end
def uptoSmall : (H : Type) → List (DataW H) → Bool := fun _ ds => decide (uptoBulkAll ds ≤ 1048576)
def OpenSpec.upto (s : _root_.Go.ChangeSpec) : _root_.Go.OpenSpec := { _root_.Go.OpenSpec.ofChange s with cond := some uptoSmall }

/-- 'overspilllaw11.ScanAt', WHERE WHAT IT READS IS OF BULK AT MOST 1048576: true; the input reads as it did. -/
def scanAtUptoRow : OpenClaim := { program := "ytefoiijpgpjooaadoor", sum := "667792842f356b85b9d236fc127934131dd2a7bb7dd9c2f391fb28bdcf88d7c1", func := "overspill/overspilllaw11.ScanAt", spec := "scanAt", named := ["overspill/scan.places"], apart := false, laid := [("overspill/scan.places", laid_overspill_scan_places)], narrowed := true }
def ScanAtUptoSaid : Prop := scanAtUptoRow.holds Tryd.pinned (OpenSpec.upto scanAtSpec)

/-- 'overspilllaw11.ScanTurns', WHERE WHAT IT READS IS OF BULK AT MOST 1048576: true; the input reads as it did. -/
def scanTurnsUptoRow : OpenClaim := { program := "ytefoiijpgpjooaadoor", sum := "667792842f356b85b9d236fc127934131dd2a7bb7dd9c2f391fb28bdcf88d7c1", func := "overspill/overspilllaw11.ScanTurns", spec := "scanTurns", named := ["overspill/scan.places"], apart := false, laid := [("overspill/scan.places", laid_overspill_scan_places)], narrowed := true }
def ScanTurnsUptoSaid : Prop := scanTurnsUptoRow.holds Tryd.pinned (OpenSpec.upto scanTurnsSpec)

/-- 'overspilllaw11.ScanLater', WHERE WHAT IT READS IS OF BULK AT MOST 1048576: true; the input reads as it did. -/
def scanLaterUptoRow : OpenClaim := { program := "ytefoiijpgpjooaadoor", sum := "667792842f356b85b9d236fc127934131dd2a7bb7dd9c2f391fb28bdcf88d7c1", func := "overspill/overspilllaw11.ScanLater", spec := "scanLater", named := ["overspill/scan.places"], apart := false, laid := [("overspill/scan.places", laid_overspill_scan_places)], narrowed := true }
def ScanLaterUptoSaid : Prop := scanLaterUptoRow.holds Tryd.pinned (OpenSpec.upto scanLaterSpec)

end Rows
end Go.Proofs.YtefoiijpgpjooaaDoor
