/-
  NARROWER THAN 'FOR EVERY INPUT', by the rows' own cells (each row's printed sentence says how): MvdRows: laid · MvdTakes: laid · MvdBack: laid.
  DERIVED. THE GIVEN ROWS OF THIS SEAT. 3 by the template 'for every input the law returns true; each argument reads behind the call as it read before'; 0 by the template 'total and deterministic' (their statements: YtbooiedfocigfaaDoorTotals.lean).
  GIVEN WITH THE SEED: the statements are not yours to turn. If you find one false, say at which input.
  Laid BY PROGRAM, IN A SANDBOX (cutbox-rows.mjs): the forced cells as the released guide's own fill.sh prints them over the translation ab28c43ae5ce9437… (all of the seat's roots in one cut). By AI agents, Wed Nov 11 2026. No macro, syntax, notation, axiom, sorry.
-/
import Derived.Test.YtbooiedfocigfaaDoorChecked
import GoSem.Claim
import GoSem.ClaimJoined
import GoSem.ClaimMapViews
import Derived.JoinedTies
import Derived.KernelRfl
namespace Go.Proofs.YtbooiedfocigfaaDoor
/- THE CELL 'sum', in the pinned program and in every row, IS THE sha256 OF THE DUMP (.gsa) THAT YtbooiedfocigfaaDoorProg.lean LOADS. Nothing in Lean hashes anything: it is a label: what it is worth is what the hold of that sum in a sandbox is worth. -/
noncomputable def Tryd.pinned : Pinned := { name := "ytbooiedfocigfaadoor", sum := "ab28c43ae5ce94378bb32fd468acbf56273032748bed9a268751e61c78474fff", checked := Tryd.checked }
namespace Rows
def none {H : Type} : Left H := { results := [], args := [] }

/- WHAT THE LISTED PACKAGE-LEVEL VARIABLES READ AS WHEN THE CALL BEGINS. Each datum BY PROGRAM (the guide's laid-datum.mjs) off the statement by which the dump's own 'gosem.cut.vars' lays the variable. In a bare row this is a premise. The card (YtbooiedfocigfaaDoorCards.lean) ties it to the program's text. -/
def laid_overspill_mvd_codes {H : Type} : DataW H := .agg [.lit (.int .i64 1), .lit (.int .i64 1), .lit (.int .i64 1), .lit (.int .i64 1), .lit (.int .i64 3), .lit (.int .i64 5), .lit (.int .i64 4), .lit (.int .i64 3), .lit (.int .i64 11), .lit (.int .i64 10), .lit (.int .i64 9), .lit (.int .i64 17), .lit (.int .i64 16), .lit (.int .i64 15), .lit (.int .i64 14), .lit (.int .i64 13), .lit (.int .i64 12), .lit (.int .i64 11), .lit (.int .i64 10), .lit (.int .i64 9), .lit (.int .i64 8), .lit (.int .i64 7), .lit (.int .i64 6), .lit (.int .i64 5), .lit (.int .i64 4), .lit (.int .i64 7), .lit (.int .i64 6), .lit (.int .i64 5), .lit (.int .i64 4), .lit (.int .i64 3), .lit (.int .i64 2), .lit (.int .i64 3), .lit (.int .i64 2)]
def laid_overspill_mvd_lengths {H : Type} : DataW H := .agg [.lit (.int .i64 1), .lit (.int .i64 2), .lit (.int .i64 3), .lit (.int .i64 4), .lit (.int .i64 6), .lit (.int .i64 7), .lit (.int .i64 7), .lit (.int .i64 7), .lit (.int .i64 9), .lit (.int .i64 9), .lit (.int .i64 9), .lit (.int .i64 10), .lit (.int .i64 10), .lit (.int .i64 10), .lit (.int .i64 10), .lit (.int .i64 10), .lit (.int .i64 10), .lit (.int .i64 10), .lit (.int .i64 10), .lit (.int .i64 10), .lit (.int .i64 10), .lit (.int .i64 10), .lit (.int .i64 10), .lit (.int .i64 10), .lit (.int .i64 10), .lit (.int .i64 11), .lit (.int .i64 11), .lit (.int .i64 11), .lit (.int .i64 11), .lit (.int .i64 11), .lit (.int .i64 11), .lit (.int .i64 12), .lit (.int .i64 12)]

/-- 'overspilllaw08.MvdRows': WHATEVER THE INPUT: true; the input reads as it did. -/
def mvdRowsSpec : ChangeSpec := { name := "mvdRows", fn := fun _ => fun
  | [d] => { results := [.lit (.bool true)], args := [d] }
  | _ => none }
def mvdRowsRow : OpenClaim := { program := "ytbooiedfocigfaadoor", sum := "ab28c43ae5ce94378bb32fd468acbf56273032748bed9a268751e61c78474fff", func := "overspill/overspilllaw08.MvdRows", spec := "mvdRows", named := ["overspill/mvd.codes", "overspill/mvd.lengths"], apart := false, laid := [("overspill/mvd.codes", laid_overspill_mvd_codes), ("overspill/mvd.lengths", laid_overspill_mvd_lengths)] }
def MvdRowsSaid : Prop := mvdRowsRow.holds Tryd.pinned (OpenSpec.ofChange mvdRowsSpec)

/-- ITS FALSE NEIGHBOUR: 'it returns false'. Refute it at one input. -/
def mvdRowsWrong : ChangeSpec := { name := "mvdRows", fn := fun _ => fun
  | [d] => { results := [.lit (.bool false)], args := [d] }
  | _ => none }
def MvdRowsWrongFalsely : Prop := mvdRowsRow.holds Tryd.pinned (OpenSpec.ofChange mvdRowsWrong)

/-- 'overspilllaw08.MvdTakes': WHATEVER THE INPUT: true; the input reads as it did. -/
def mvdTakesSpec : ChangeSpec := { name := "mvdTakes", fn := fun _ => fun
  | [d1, d2] => { results := [.lit (.bool true)], args := [d1, d2] }
  | _ => none }
def mvdTakesRow : OpenClaim := { program := "ytbooiedfocigfaadoor", sum := "ab28c43ae5ce94378bb32fd468acbf56273032748bed9a268751e61c78474fff", func := "overspill/overspilllaw08.MvdTakes", spec := "mvdTakes", named := ["overspill/mvd.codes", "overspill/mvd.lengths"], apart := false, laid := [("overspill/mvd.codes", laid_overspill_mvd_codes), ("overspill/mvd.lengths", laid_overspill_mvd_lengths)] }
def MvdTakesSaid : Prop := mvdTakesRow.holds Tryd.pinned (OpenSpec.ofChange mvdTakesSpec)

/-- ITS FALSE NEIGHBOUR: 'it returns false'. Refute it at one input. -/
def mvdTakesWrong : ChangeSpec := { name := "mvdTakes", fn := fun _ => fun
  | [d1, d2] => { results := [.lit (.bool false)], args := [d1, d2] }
  | _ => none }
def MvdTakesWrongFalsely : Prop := mvdTakesRow.holds Tryd.pinned (OpenSpec.ofChange mvdTakesWrong)

/-- 'overspilllaw08.MvdBack': WHATEVER THE INPUT: true; the input reads as it did. -/
def mvdBackSpec : ChangeSpec := { name := "mvdBack", fn := fun _ => fun
  | [d1, d2] => { results := [.lit (.bool true)], args := [d1, d2] }
  | _ => none }
def mvdBackRow : OpenClaim := { program := "ytbooiedfocigfaadoor", sum := "ab28c43ae5ce94378bb32fd468acbf56273032748bed9a268751e61c78474fff", func := "overspill/overspilllaw08.MvdBack", spec := "mvdBack", named := ["overspill/mvd.codes", "overspill/mvd.lengths"], apart := false, laid := [("overspill/mvd.codes", laid_overspill_mvd_codes), ("overspill/mvd.lengths", laid_overspill_mvd_lengths)] }
def MvdBackSaid : Prop := mvdBackRow.holds Tryd.pinned (OpenSpec.ofChange mvdBackSpec)

/-- ITS FALSE NEIGHBOUR: 'it returns false'. Refute it at one input. -/
def mvdBackWrong : ChangeSpec := { name := "mvdBack", fn := fun _ => fun
  | [d1, d2] => { results := [.lit (.bool false)], args := [d1, d2] }
  | _ => none }
def MvdBackWrongFalsely : Prop := mvdBackRow.holds Tryd.pinned (OpenSpec.ofChange mvdBackWrong)

/- THE SECOND FORM. 'bulk': how many values and letters a reading holds, each counted each time it is reached (what is shared counts as often as it is met; a slice's spare places count too). A statement '..UptoSaid' is the law's where the arguments, and the package variables that the reading takes, are together of bulk at most 1048576: NARROWER than '..Said'. Prove '..Said' where nothing that the law and all that it calls make is longer than what came in: it says more and counts as full. Else prove '..UptoSaid'. A law counts once. -/
mutual
def uptoBulk {H : Type} : DataW H → Nat
  | .lit (.string bytes) => bytes.length + 1
  | .lit _ => 1
  | .nil => 1
  | .ptr d => uptoBulk d + 1
  | .slice elems spare => uptoBulkAll elems + uptoBulkAll spare + 1
  | .agg parts => uptoBulkAll parts + 1
  | .iface _ d => uptoBulk d + 1
  | .map entries => uptoBulkEntries entries + 1
  | .held _ => 1
def uptoBulkAll {H : Type} : List (DataW H) → Nat
  | [] => 0
  | d :: r => uptoBulk d + uptoBulkAll r
def uptoBulkEntries {H : Type} : List (Lit × DataW H) → Nat
  | [] => 0
  | x :: r => uptoBulkEntry x + uptoBulkEntries r
def uptoBulkEntry {H : Type} : Lit × DataW H → Nat
  | (.string bytes, d) => bytes.length + uptoBulk d + 1
  | (_, d) => uptoBulk d + 1
 end
def uptoSmall : (H : Type) → List (DataW H) → Bool := fun _ ds => decide (uptoBulkAll ds ≤ 1048576)
def OpenSpec.upto (s : _root_.Go.ChangeSpec) : _root_.Go.OpenSpec := { _root_.Go.OpenSpec.ofChange s with cond := some uptoSmall }

/-- 'overspilllaw08.MvdRows', WHERE WHAT IT READS IS OF BULK AT MOST 1048576: true; the input reads as it did. -/
def mvdRowsUptoRow : OpenClaim := { program := "ytbooiedfocigfaadoor", sum := "ab28c43ae5ce94378bb32fd468acbf56273032748bed9a268751e61c78474fff", func := "overspill/overspilllaw08.MvdRows", spec := "mvdRows", named := ["overspill/mvd.codes", "overspill/mvd.lengths"], apart := false, laid := [("overspill/mvd.codes", laid_overspill_mvd_codes), ("overspill/mvd.lengths", laid_overspill_mvd_lengths)], narrowed := true }
def MvdRowsUptoSaid : Prop := mvdRowsUptoRow.holds Tryd.pinned (OpenSpec.upto mvdRowsSpec)

/-- 'overspilllaw08.MvdTakes', WHERE WHAT IT READS IS OF BULK AT MOST 1048576: true; the input reads as it did. -/
def mvdTakesUptoRow : OpenClaim := { program := "ytbooiedfocigfaadoor", sum := "ab28c43ae5ce94378bb32fd468acbf56273032748bed9a268751e61c78474fff", func := "overspill/overspilllaw08.MvdTakes", spec := "mvdTakes", named := ["overspill/mvd.codes", "overspill/mvd.lengths"], apart := false, laid := [("overspill/mvd.codes", laid_overspill_mvd_codes), ("overspill/mvd.lengths", laid_overspill_mvd_lengths)], narrowed := true }
def MvdTakesUptoSaid : Prop := mvdTakesUptoRow.holds Tryd.pinned (OpenSpec.upto mvdTakesSpec)

/-- 'overspilllaw08.MvdBack', WHERE WHAT IT READS IS OF BULK AT MOST 1048576: true; the input reads as it did. -/
def mvdBackUptoRow : OpenClaim := { program := "ytbooiedfocigfaadoor", sum := "ab28c43ae5ce94378bb32fd468acbf56273032748bed9a268751e61c78474fff", func := "overspill/overspilllaw08.MvdBack", spec := "mvdBack", named := ["overspill/mvd.codes", "overspill/mvd.lengths"], apart := false, laid := [("overspill/mvd.codes", laid_overspill_mvd_codes), ("overspill/mvd.lengths", laid_overspill_mvd_lengths)], narrowed := true }
def MvdBackUptoSaid : Prop := mvdBackUptoRow.holds Tryd.pinned (OpenSpec.upto mvdBackSpec)

end Rows
end Go.Proofs.YtbooiedfocigfaaDoor
