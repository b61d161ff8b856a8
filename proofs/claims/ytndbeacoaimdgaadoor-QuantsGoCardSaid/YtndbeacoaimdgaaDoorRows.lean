/-
  NARROWER THAN 'FOR EVERY INPUT', by the rows' own cells (each row's printed sentence says how): QuantsOf: laid · QuantsGo: laid.
  DERIVED. THE GIVEN ROWS OF THIS SEAT. 2 by the template 'for every input the law returns true; each argument reads behind the call as it read before'; 0 by the template 'total and deterministic' (their statements: YtndbeacoaimdgaaDoorTotals.lean).
  GIVEN WITH THE SEED: the statements are not yours to turn. If you find one false, say at which input.
  Laid BY PROGRAM, IN A SANDBOX (cutbox-rows.mjs): the forced cells as the released guide's own fill.sh prints them over the translation edb4b74584a5ac4f… (all of the seat's roots in one cut). By AI agents, Wed Nov 11 2026. No macro, syntax, notation, axiom, sorry.
-/
import Derived.Test.YtndbeacoaimdgaaDoorChecked
import GoSem.Claim
import GoSem.ClaimJoined
import GoSem.ClaimMapViews
import Derived.JoinedTies
import Derived.KernelRfl
namespace Go.Proofs.YtndbeacoaimdgaaDoor
/- THE CELL 'sum', in the pinned program and in every row, IS THE sha256 OF THE DUMP (.gsa) THAT YtndbeacoaimdgaaDoorProg.lean LOADS. Nothing in Lean hashes anything: it is a label: what it is worth is what the hold of that sum in a sandbox is worth. -/
noncomputable def Tryd.pinned : Pinned := { name := "ytndbeacoaimdgaadoor", sum := "edb4b74584a5ac4f3beedc346a4411bb0fecba34a579ccd03cf9c6154086e371", checked := Tryd.checked }
namespace Rows
def none {H : Type} : Left H := { results := [], args := [] }

/- WHAT THE LISTED PACKAGE-LEVEL VARIABLES READ AS WHEN THE CALL BEGINS. Each datum BY PROGRAM (the guide's laid-datum.mjs) off the statement by which the dump's own 'gosem.cut.vars' lays the variable. In a bare row this is a premise. The card (YtndbeacoaimdgaaDoorCards.lean) ties it to the program's text. -/
def laid_overspill_tcoef_codes {H : Type} : DataW H := .agg [.lit (.int .u16 2), .lit (.int .u16 15), .lit (.int .u16 21), .lit (.int .u16 23), .lit (.int .u16 31), .lit (.int .u16 37), .lit (.int .u16 36), .lit (.int .u16 33), .lit (.int .u16 32), .lit (.int .u16 7), .lit (.int .u16 6), .lit (.int .u16 32), .lit (.int .u16 6), .lit (.int .u16 20), .lit (.int .u16 30), .lit (.int .u16 15), .lit (.int .u16 33), .lit (.int .u16 80), .lit (.int .u16 14), .lit (.int .u16 29), .lit (.int .u16 14), .lit (.int .u16 81), .lit (.int .u16 13), .lit (.int .u16 35), .lit (.int .u16 13), .lit (.int .u16 12), .lit (.int .u16 34), .lit (.int .u16 82), .lit (.int .u16 11), .lit (.int .u16 12), .lit (.int .u16 83), .lit (.int .u16 19), .lit (.int .u16 11), .lit (.int .u16 84), .lit (.int .u16 18), .lit (.int .u16 10), .lit (.int .u16 17), .lit (.int .u16 9), .lit (.int .u16 16), .lit (.int .u16 8), .lit (.int .u16 22), .lit (.int .u16 85), .lit (.int .u16 21), .lit (.int .u16 20), .lit (.int .u16 28), .lit (.int .u16 27), .lit (.int .u16 33), .lit (.int .u16 32), .lit (.int .u16 31), .lit (.int .u16 30), .lit (.int .u16 29), .lit (.int .u16 28), .lit (.int .u16 27), .lit (.int .u16 26), .lit (.int .u16 34), .lit (.int .u16 35), .lit (.int .u16 86), .lit (.int .u16 87), .lit (.int .u16 7), .lit (.int .u16 25), .lit (.int .u16 5), .lit (.int .u16 15), .lit (.int .u16 4), .lit (.int .u16 14), .lit (.int .u16 13), .lit (.int .u16 12), .lit (.int .u16 19), .lit (.int .u16 18), .lit (.int .u16 17), .lit (.int .u16 16), .lit (.int .u16 26), .lit (.int .u16 25), .lit (.int .u16 24), .lit (.int .u16 23), .lit (.int .u16 22), .lit (.int .u16 21), .lit (.int .u16 20), .lit (.int .u16 19), .lit (.int .u16 24), .lit (.int .u16 23), .lit (.int .u16 22), .lit (.int .u16 21), .lit (.int .u16 20), .lit (.int .u16 19), .lit (.int .u16 18), .lit (.int .u16 17), .lit (.int .u16 7), .lit (.int .u16 6), .lit (.int .u16 5), .lit (.int .u16 4), .lit (.int .u16 36), .lit (.int .u16 37), .lit (.int .u16 38), .lit (.int .u16 39), .lit (.int .u16 88), .lit (.int .u16 89), .lit (.int .u16 90), .lit (.int .u16 91), .lit (.int .u16 92), .lit (.int .u16 93), .lit (.int .u16 94), .lit (.int .u16 95), .lit (.int .u16 3)]
def laid_overspill_tcoef_lengths {H : Type} : DataW H := .agg [.lit (.int .u8 2), .lit (.int .u8 4), .lit (.int .u8 6), .lit (.int .u8 7), .lit (.int .u8 8), .lit (.int .u8 9), .lit (.int .u8 9), .lit (.int .u8 10), .lit (.int .u8 10), .lit (.int .u8 11), .lit (.int .u8 11), .lit (.int .u8 11), .lit (.int .u8 3), .lit (.int .u8 6), .lit (.int .u8 8), .lit (.int .u8 10), .lit (.int .u8 11), .lit (.int .u8 12), .lit (.int .u8 4), .lit (.int .u8 8), .lit (.int .u8 10), .lit (.int .u8 12), .lit (.int .u8 5), .lit (.int .u8 9), .lit (.int .u8 10), .lit (.int .u8 5), .lit (.int .u8 9), .lit (.int .u8 12), .lit (.int .u8 5), .lit (.int .u8 10), .lit (.int .u8 12), .lit (.int .u8 6), .lit (.int .u8 10), .lit (.int .u8 12), .lit (.int .u8 6), .lit (.int .u8 10), .lit (.int .u8 6), .lit (.int .u8 10), .lit (.int .u8 6), .lit (.int .u8 10), .lit (.int .u8 7), .lit (.int .u8 12), .lit (.int .u8 7), .lit (.int .u8 7), .lit (.int .u8 8), .lit (.int .u8 8), .lit (.int .u8 9), .lit (.int .u8 9), .lit (.int .u8 9), .lit (.int .u8 9), .lit (.int .u8 9), .lit (.int .u8 9), .lit (.int .u8 9), .lit (.int .u8 9), .lit (.int .u8 11), .lit (.int .u8 11), .lit (.int .u8 12), .lit (.int .u8 12), .lit (.int .u8 4), .lit (.int .u8 9), .lit (.int .u8 11), .lit (.int .u8 6), .lit (.int .u8 11), .lit (.int .u8 6), .lit (.int .u8 6), .lit (.int .u8 6), .lit (.int .u8 7), .lit (.int .u8 7), .lit (.int .u8 7), .lit (.int .u8 7), .lit (.int .u8 8), .lit (.int .u8 8), .lit (.int .u8 8), .lit (.int .u8 8), .lit (.int .u8 8), .lit (.int .u8 8), .lit (.int .u8 8), .lit (.int .u8 8), .lit (.int .u8 9), .lit (.int .u8 9), .lit (.int .u8 9), .lit (.int .u8 9), .lit (.int .u8 9), .lit (.int .u8 9), .lit (.int .u8 9), .lit (.int .u8 9), .lit (.int .u8 10), .lit (.int .u8 10), .lit (.int .u8 10), .lit (.int .u8 10), .lit (.int .u8 11), .lit (.int .u8 11), .lit (.int .u8 11), .lit (.int .u8 11), .lit (.int .u8 12), .lit (.int .u8 12), .lit (.int .u8 12), .lit (.int .u8 12), .lit (.int .u8 12), .lit (.int .u8 12), .lit (.int .u8 12), .lit (.int .u8 12), .lit (.int .u8 7)]
def laid_overspill_tcoef_ahead {H : Type} : DataW H := .agg [.lit (.int .u8 12), .lit (.int .u8 6), .lit (.int .u8 4), .lit (.int .u8 3), .lit (.int .u8 3), .lit (.int .u8 3), .lit (.int .u8 3), .lit (.int .u8 2), .lit (.int .u8 2), .lit (.int .u8 2), .lit (.int .u8 2)]
def laid_overspill_steps_codes {H : Type} : DataW H := .agg [.agg [.lit (.string [48, 48]), .lit (.int .i64 (-1))], .agg [.lit (.string [48, 49]), .lit (.int .i64 (-2))], .agg [.lit (.string [49, 48]), .lit (.int .i64 1)], .agg [.lit (.string [49, 49]), .lit (.int .i64 2)]]

/-- 'overspilllaw30.QuantsOf': WHATEVER THE INPUT: true; the input reads as it did. -/
def quantsOfSpec : ChangeSpec := { name := "quantsOf", fn := fun _ => fun
  | [d] => { results := [.lit (.bool true)], args := [d] }
  | _ => none }
def quantsOfRow : OpenClaim := { program := "ytndbeacoaimdgaadoor", sum := "edb4b74584a5ac4f3beedc346a4411bb0fecba34a579ccd03cf9c6154086e371", func := "overspill/overspilllaw30.QuantsOf", spec := "quantsOf", inPlace := ["internal/abi.NoEscape", "internal/bytealg.MakeNoZero"], unfollowed := true, recurses := true, named := ["overspill/steps.codes", "overspill/tcoef.ahead", "overspill/tcoef.codes", "overspill/tcoef.lengths"], apart := false, laid := [("overspill/tcoef.codes", laid_overspill_tcoef_codes), ("overspill/tcoef.lengths", laid_overspill_tcoef_lengths), ("overspill/tcoef.ahead", laid_overspill_tcoef_ahead), ("overspill/steps.codes", laid_overspill_steps_codes)] }
def QuantsOfSaid : Prop := quantsOfRow.holds Tryd.pinned (OpenSpec.ofChange quantsOfSpec)

/-- ITS FALSE NEIGHBOUR: 'it returns false'. Refute it at one input. -/
def quantsOfWrong : ChangeSpec := { name := "quantsOf", fn := fun _ => fun
  | [d] => { results := [.lit (.bool false)], args := [d] }
  | _ => none }
def QuantsOfWrongFalsely : Prop := quantsOfRow.holds Tryd.pinned (OpenSpec.ofChange quantsOfWrong)

/-- 'overspilllaw30.QuantsGo': WHATEVER THE INPUT: true; the input reads as it did. -/
def quantsGoSpec : ChangeSpec := { name := "quantsGo", fn := fun _ => fun
  | [d] => { results := [.lit (.bool true)], args := [d] }
  | _ => none }
def quantsGoRow : OpenClaim := { program := "ytndbeacoaimdgaadoor", sum := "edb4b74584a5ac4f3beedc346a4411bb0fecba34a579ccd03cf9c6154086e371", func := "overspill/overspilllaw30.QuantsGo", spec := "quantsGo", inPlace := ["internal/abi.NoEscape", "internal/bytealg.MakeNoZero"], unfollowed := true, recurses := true, named := ["overspill/steps.codes", "overspill/tcoef.ahead", "overspill/tcoef.codes", "overspill/tcoef.lengths"], apart := false, laid := [("overspill/tcoef.codes", laid_overspill_tcoef_codes), ("overspill/tcoef.lengths", laid_overspill_tcoef_lengths), ("overspill/tcoef.ahead", laid_overspill_tcoef_ahead), ("overspill/steps.codes", laid_overspill_steps_codes)] }
def QuantsGoSaid : Prop := quantsGoRow.holds Tryd.pinned (OpenSpec.ofChange quantsGoSpec)

/-- ITS FALSE NEIGHBOUR: 'it returns false'. Refute it at one input. -/
def quantsGoWrong : ChangeSpec := { name := "quantsGo", fn := fun _ => fun
  | [d] => { results := [.lit (.bool false)], args := [d] }
  | _ => none }
def QuantsGoWrongFalsely : Prop := quantsGoRow.holds Tryd.pinned (OpenSpec.ofChange quantsGoWrong)

/- THE SECOND FORM. 'bulk': how many values and letters a reading holds, each counted each time it is reached (what is shared counts as often as it is met; a slice's spare places count too). A statement '..UptoSaid' is the law's where the arguments, and the package variables that the reading takes, are together of bulk at most 1048576: NARROWER than '..Said'. Prove '..Said' where nothing that the law and all that it calls make is longer than what came in: it says more and counts as full. Else prove '..UptoSaid'. A law counts once. -/
mutual
def uptoBulk {H : Type} : DataW H → Nat
  | .lit (.string bytes) => bytes.length + 1
  | .lit _ => 1
  | .nil => 1
  | .ptr d => uptoBulk d + 1
  | .slice elems spare => uptoBulkAll elems + uptoBulkAll spare + 1
  | .agg parts => uptoBulkAll parts + 1
  | .iface _ d => uptoBulk d + 1
  | .map entries => uptoBulkEntries entries + 1
  | .held _ => 1
def uptoBulkAll {H : Type} : List (DataW H) → Nat
  | [] => 0
  | d :: r => uptoBulk d + uptoBulkAll r
def uptoBulkEntries {H : Type} : List (Lit × DataW H) → Nat
  | [] => 0
  | x :: r => uptoBulkEntry x + uptoBulkEntries r
def uptoBulkEntry {H : Type} : Lit × DataW H → Nat
  | (.string bytes, d) => bytes.length + uptoBulk d + 1
  | (_, d) => uptoBulk d + 1
 end
def uptoSmall : (H : Type) → List (DataW H) → Bool := fun _ ds => decide (uptoBulkAll ds ≤ 1048576)
def OpenSpec.upto (s : _root_.Go.ChangeSpec) : _root_.Go.OpenSpec := { _root_.Go.OpenSpec.ofChange s with cond := some uptoSmall }

/-- 'overspilllaw30.QuantsOf', WHERE WHAT IT READS IS OF BULK AT MOST 1048576: true; the input reads as it did. -/
def quantsOfUptoRow : OpenClaim := { program := "ytndbeacoaimdgaadoor", sum := "edb4b74584a5ac4f3beedc346a4411bb0fecba34a579ccd03cf9c6154086e371", func := "overspill/overspilllaw30.QuantsOf", spec := "quantsOf", inPlace := ["internal/abi.NoEscape", "internal/bytealg.MakeNoZero"], unfollowed := true, recurses := true, named := ["overspill/steps.codes", "overspill/tcoef.ahead", "overspill/tcoef.codes", "overspill/tcoef.lengths"], apart := false, laid := [("overspill/tcoef.codes", laid_overspill_tcoef_codes), ("overspill/tcoef.lengths", laid_overspill_tcoef_lengths), ("overspill/tcoef.ahead", laid_overspill_tcoef_ahead), ("overspill/steps.codes", laid_overspill_steps_codes)], narrowed := true }
def QuantsOfUptoSaid : Prop := quantsOfUptoRow.holds Tryd.pinned (OpenSpec.upto quantsOfSpec)

/-- 'overspilllaw30.QuantsGo', WHERE WHAT IT READS IS OF BULK AT MOST 1048576: true; the input reads as it did. -/
def quantsGoUptoRow : OpenClaim := { program := "ytndbeacoaimdgaadoor", sum := "edb4b74584a5ac4f3beedc346a4411bb0fecba34a579ccd03cf9c6154086e371", func := "overspill/overspilllaw30.QuantsGo", spec := "quantsGo", inPlace := ["internal/abi.NoEscape", "internal/bytealg.MakeNoZero"], unfollowed := true, recurses := true, named := ["overspill/steps.codes", "overspill/tcoef.ahead", "overspill/tcoef.codes", "overspill/tcoef.lengths"], apart := false, laid := [("overspill/tcoef.codes", laid_overspill_tcoef_codes), ("overspill/tcoef.lengths", laid_overspill_tcoef_lengths), ("overspill/tcoef.ahead", laid_overspill_tcoef_ahead), ("overspill/steps.codes", laid_overspill_steps_codes)], narrowed := true }
def QuantsGoUptoSaid : Prop := quantsGoUptoRow.holds Tryd.pinned (OpenSpec.upto quantsGoSpec)

end Rows
end Go.Proofs.YtndbeacoaimdgaaDoor
