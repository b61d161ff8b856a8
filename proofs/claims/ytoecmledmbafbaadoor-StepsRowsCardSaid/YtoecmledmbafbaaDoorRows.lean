/-
  NARROWER THAN 'FOR EVERY INPUT', by the rows' own cells (each row's printed sentence says how): StepsRows: laid · StepsNext: laid · StepsFloor: laid.
  DERIVED. THE GIVEN ROWS OF THIS SEAT. 3 by the template 'for every input the law returns true; each argument reads behind the call as it read before'; 0 by the template 'total and deterministic' (their statements: YtoecmledmbafbaaDoorTotals.lean).
  GIVEN WITH THE SEED: the statements are not yours to turn. If you find one false, say at which input.
  Laid BY PROGRAM, IN A SANDBOX (cutbox-rows.mjs): the forced cells as the released guide's own fill.sh prints them over the translation 5c01896a54ff6bc6… (all of the seat's roots in one cut). By AI agents, Wed Nov 11 2026. No macro, syntax, notation, axiom, sorry.
-/
import Derived.Test.YtoecmledmbafbaaDoorChecked
import GoSem.Claim
import GoSem.ClaimJoined
import GoSem.ClaimMapViews
import Derived.JoinedTies
import Derived.KernelRfl
namespace Go.Proofs.YtoecmledmbafbaaDoor
/- THE CELL 'sum', in the pinned program and in every row, IS THE sha256 OF THE DUMP (.gsa) THAT YtoecmledmbafbaaDoorProg.lean LOADS. Nothing in Lean hashes anything: it is a label: what it is worth is what the hold of that sum in a sandbox is worth. -/
noncomputable def Tryd.pinned : Pinned := { name := "ytoecmledmbafbaadoor", sum := "5c01896a54ff6bc66a191ebeaca372c64732736bd72cd77ad19e892cab0229f8", checked := Tryd.checked }
namespace Rows
def none {H : Type} : Left H := { results := [], args := [] }

/- WHAT THE LISTED PACKAGE-LEVEL VARIABLES READ AS WHEN THE CALL BEGINS. Each datum BY PROGRAM (the guide's laid-datum.mjs) off the statement by which the dump's own 'gosem.cut.vars' lays the variable. In a bare row this is a premise. The card (YtoecmledmbafbaaDoorCards.lean) ties it to the program's text. -/
def laid_overspill_steps_codes {H : Type} : DataW H := .agg [.agg [.lit (.string [48, 48]), .lit (.int .i64 (-1))], .agg [.lit (.string [48, 49]), .lit (.int .i64 (-2))], .agg [.lit (.string [49, 48]), .lit (.int .i64 1)], .agg [.lit (.string [49, 49]), .lit (.int .i64 2)]]

/-- 'overspilllaw20.StepsRows': WHATEVER THE INPUT: true; the input reads as it did. -/
def stepsRowsSpec : ChangeSpec := { name := "stepsRows", fn := fun _ => fun
  | [d1, d2, d3] => { results := [.lit (.bool true)], args := [d1, d2, d3] }
  | _ => none }
def stepsRowsRow : OpenClaim := { program := "ytoecmledmbafbaadoor", sum := "5c01896a54ff6bc66a191ebeaca372c64732736bd72cd77ad19e892cab0229f8", func := "overspill/overspilllaw20.StepsRows", spec := "stepsRows", named := ["overspill/steps.codes"], apart := false, laid := [("overspill/steps.codes", laid_overspill_steps_codes)] }
def StepsRowsSaid : Prop := stepsRowsRow.holds Tryd.pinned (OpenSpec.ofChange stepsRowsSpec)

/-- ITS FALSE NEIGHBOUR: 'it returns false'. Refute it at one input. -/
def stepsRowsWrong : ChangeSpec := { name := "stepsRows", fn := fun _ => fun
  | [d1, d2, d3] => { results := [.lit (.bool false)], args := [d1, d2, d3] }
  | _ => none }
def StepsRowsWrongFalsely : Prop := stepsRowsRow.holds Tryd.pinned (OpenSpec.ofChange stepsRowsWrong)

/-- 'overspilllaw20.StepsNext': WHATEVER THE INPUT: true; the input reads as it did. -/
def stepsNextSpec : ChangeSpec := { name := "stepsNext", fn := fun _ => fun
  | [d1, d2, d3] => { results := [.lit (.bool true)], args := [d1, d2, d3] }
  | _ => none }
def stepsNextRow : OpenClaim := { program := "ytoecmledmbafbaadoor", sum := "5c01896a54ff6bc66a191ebeaca372c64732736bd72cd77ad19e892cab0229f8", func := "overspill/overspilllaw20.StepsNext", spec := "stepsNext", named := ["overspill/steps.codes"], apart := false, laid := [("overspill/steps.codes", laid_overspill_steps_codes)] }
def StepsNextSaid : Prop := stepsNextRow.holds Tryd.pinned (OpenSpec.ofChange stepsNextSpec)

/-- ITS FALSE NEIGHBOUR: 'it returns false'. Refute it at one input. -/
def stepsNextWrong : ChangeSpec := { name := "stepsNext", fn := fun _ => fun
  | [d1, d2, d3] => { results := [.lit (.bool false)], args := [d1, d2, d3] }
  | _ => none }
def StepsNextWrongFalsely : Prop := stepsNextRow.holds Tryd.pinned (OpenSpec.ofChange stepsNextWrong)

/-- 'overspilllaw20.StepsFloor': WHATEVER THE INPUT: true; the input reads as it did. -/
def stepsFloorSpec : ChangeSpec := { name := "stepsFloor", fn := fun _ => fun
  | [d1, d2, d3] => { results := [.lit (.bool true)], args := [d1, d2, d3] }
  | _ => none }
def stepsFloorRow : OpenClaim := { program := "ytoecmledmbafbaadoor", sum := "5c01896a54ff6bc66a191ebeaca372c64732736bd72cd77ad19e892cab0229f8", func := "overspill/overspilllaw20.StepsFloor", spec := "stepsFloor", named := ["overspill/steps.codes"], apart := false, laid := [("overspill/steps.codes", laid_overspill_steps_codes)] }
def StepsFloorSaid : Prop := stepsFloorRow.holds Tryd.pinned (OpenSpec.ofChange stepsFloorSpec)

/-- ITS FALSE NEIGHBOUR: 'it returns false'. Refute it at one input. -/
def stepsFloorWrong : ChangeSpec := { name := "stepsFloor", fn := fun _ => fun
  | [d1, d2, d3] => { results := [.lit (.bool false)], args := [d1, d2, d3] }
  | _ => none }
def StepsFloorWrongFalsely : Prop := stepsFloorRow.holds Tryd.pinned (OpenSpec.ofChange stepsFloorWrong)

/- THE SECOND FORM. 'bulk': how many values and letters a reading holds, each counted each time it is reached (what is shared counts as often as it is met; a slice's spare places count too). A statement '..UptoSaid' is the law's where the arguments, and the package variables that the reading takes, are together of bulk at most 1048576: NARROWER than '..Said'. Prove '..Said' where nothing that the law and all that it calls make is longer than what came in: it says more and counts as full. Else prove '..UptoSaid'. A law counts once. -/
mutual
def uptoBulk {H : Type} : DataW H → Nat
  | .lit (.string bytes) => bytes.length + 1
  | .lit _ => 1
  | .nil => 1
  | .ptr d => uptoBulk d + 1
  | .slice elems spare => uptoBulkAll elems + uptoBulkAll spare + 1
  | .agg parts => uptoBulkAll parts + 1
  | .iface _ d => uptoBulk d + 1
  | .map entries => uptoBulkEntries entries + 1
  | .held _ => 1
def uptoBulkAll {H : Type} : List (DataW H) → Nat
  | [] => 0
  | d :: r => uptoBulk d + uptoBulkAll r
def uptoBulkEntries {H : Type} : List (Lit × DataW H) → Nat
  | [] => 0
  | x :: r => uptoBulkEntry x + uptoBulkEntries r
def uptoBulkEntry {H : Type} : Lit × DataW H → Nat
  | (.string bytes, d) => bytes.length + uptoBulk d + 1
  | (_, d) => uptoBulk d + 1
 end
def uptoSmall : (H : Type) → List (DataW H) → Bool := fun _ ds => decide (uptoBulkAll ds ≤ 1048576)
def OpenSpec.upto (s : _root_.Go.ChangeSpec) : _root_.Go.OpenSpec := { _root_.Go.OpenSpec.ofChange s with cond := some uptoSmall }

/-- 'overspilllaw20.StepsRows', WHERE WHAT IT READS IS OF BULK AT MOST 1048576: true; the input reads as it did. -/
def stepsRowsUptoRow : OpenClaim := { program := "ytoecmledmbafbaadoor", sum := "5c01896a54ff6bc66a191ebeaca372c64732736bd72cd77ad19e892cab0229f8", func := "overspill/overspilllaw20.StepsRows", spec := "stepsRows", named := ["overspill/steps.codes"], apart := false, laid := [("overspill/steps.codes", laid_overspill_steps_codes)], narrowed := true }
def StepsRowsUptoSaid : Prop := stepsRowsUptoRow.holds Tryd.pinned (OpenSpec.upto stepsRowsSpec)

/-- 'overspilllaw20.StepsNext', WHERE WHAT IT READS IS OF BULK AT MOST 1048576: true; the input reads as it did. -/
def stepsNextUptoRow : OpenClaim := { program := "ytoecmledmbafbaadoor", sum := "5c01896a54ff6bc66a191ebeaca372c64732736bd72cd77ad19e892cab0229f8", func := "overspill/overspilllaw20.StepsNext", spec := "stepsNext", named := ["overspill/steps.codes"], apart := false, laid := [("overspill/steps.codes", laid_overspill_steps_codes)], narrowed := true }
def StepsNextUptoSaid : Prop := stepsNextUptoRow.holds Tryd.pinned (OpenSpec.upto stepsNextSpec)

/-- 'overspilllaw20.StepsFloor', WHERE WHAT IT READS IS OF BULK AT MOST 1048576: true; the input reads as it did. -/
def stepsFloorUptoRow : OpenClaim := { program := "ytoecmledmbafbaadoor", sum := "5c01896a54ff6bc66a191ebeaca372c64732736bd72cd77ad19e892cab0229f8", func := "overspill/overspilllaw20.StepsFloor", spec := "stepsFloor", named := ["overspill/steps.codes"], apart := false, laid := [("overspill/steps.codes", laid_overspill_steps_codes)], narrowed := true }
def StepsFloorUptoSaid : Prop := stepsFloorUptoRow.holds Tryd.pinned (OpenSpec.upto stepsFloorSpec)

end Rows
end Go.Proofs.YtoecmledmbafbaaDoor
