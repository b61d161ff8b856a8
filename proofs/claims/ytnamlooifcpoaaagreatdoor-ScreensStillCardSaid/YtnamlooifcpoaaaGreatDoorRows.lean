/-
  NARROWER THAN 'FOR EVERY INPUT', by the rows' own cells (each row's printed sentence says how): ScreensNext: laid · ScreensStill: laid.
  DERIVED. THE GIVEN ROWS OF THIS SEAT. 2 by the template 'for every input the law returns true; each argument reads behind the call as it read before'; 0 by the template 'total and deterministic' (their statements: YtnamlooifcpoaaaGreatDoorTotals.lean).
  GIVEN WITH THE SEED: the statements are not yours to turn. If you find one false, say at which input.
  Laid BY PROGRAM, IN A SANDBOX (cutbox-rows.mjs): the forced cells as the released guide's own fill.sh prints them over the translation 46d11a4d25492399… (all of the seat's roots in one cut). By AI agents, Wed Nov 11 2026. No macro, syntax, notation, axiom, sorry.
-/
import Derived.Test.YtnamlooifcpoaaaGreatDoorChecked
import GoSem.Claim
import GoSem.ClaimJoined
import GoSem.ClaimMapViews
import Derived.JoinedTies
import Derived.KernelRfl
namespace Go.Proofs.YtnamlooifcpoaaaGreatDoor
/- THE CELL 'sum', in the pinned program and in every row, IS THE sha256 OF THE DUMP (.gsa) THAT YtnamlooifcpoaaaGreatDoorProg.lean LOADS. Nothing in Lean hashes anything: it is a label: what it is worth is what the hold of that sum in a sandbox is worth. -/
noncomputable def Tryz.pinned : Pinned := { name := "ytnamlooifcpoaaagreatdoor", sum := "46d11a4d25492399f5e902d7ede26b29a98f6768a6e5f7338340a04d9593359b", checked := Tryz.checked }
namespace Rows
def none {H : Type} : Left H := { results := [], args := [] }

/- WHAT THE LISTED PACKAGE-LEVEL VARIABLES READ AS WHEN THE CALL BEGINS. Each datum BY PROGRAM (the guide's laid-datum.mjs) off the statement by which the dump's own 'gosem.cut.vars' lays the variable. In a bare row this is a premise. The card (YtnamlooifcpoaaaGreatDoorCards.lean) ties it to the program's text. -/
def laid_overspill_scan_places {H : Type} : DataW H := .agg [.lit (.int .i64 0), .lit (.int .i64 1), .lit (.int .i64 8), .lit (.int .i64 16), .lit (.int .i64 9), .lit (.int .i64 2), .lit (.int .i64 3), .lit (.int .i64 10), .lit (.int .i64 17), .lit (.int .i64 24), .lit (.int .i64 32), .lit (.int .i64 25), .lit (.int .i64 18), .lit (.int .i64 11), .lit (.int .i64 4), .lit (.int .i64 5), .lit (.int .i64 12), .lit (.int .i64 19), .lit (.int .i64 26), .lit (.int .i64 33), .lit (.int .i64 40), .lit (.int .i64 48), .lit (.int .i64 41), .lit (.int .i64 34), .lit (.int .i64 27), .lit (.int .i64 20), .lit (.int .i64 13), .lit (.int .i64 6), .lit (.int .i64 7), .lit (.int .i64 14), .lit (.int .i64 21), .lit (.int .i64 28), .lit (.int .i64 35), .lit (.int .i64 42), .lit (.int .i64 49), .lit (.int .i64 56), .lit (.int .i64 57), .lit (.int .i64 50), .lit (.int .i64 43), .lit (.int .i64 36), .lit (.int .i64 29), .lit (.int .i64 22), .lit (.int .i64 15), .lit (.int .i64 23), .lit (.int .i64 30), .lit (.int .i64 37), .lit (.int .i64 44), .lit (.int .i64 51), .lit (.int .i64 58), .lit (.int .i64 59), .lit (.int .i64 52), .lit (.int .i64 45), .lit (.int .i64 38), .lit (.int .i64 31), .lit (.int .i64 39), .lit (.int .i64 46), .lit (.int .i64 53), .lit (.int .i64 60), .lit (.int .i64 61), .lit (.int .i64 54), .lit (.int .i64 47), .lit (.int .i64 55), .lit (.int .i64 62), .lit (.int .i64 63)]
def laid_overspill_tcoef_codes {H : Type} : DataW H := .agg [.lit (.int .u16 2), .lit (.int .u16 15), .lit (.int .u16 21), .lit (.int .u16 23), .lit (.int .u16 31), .lit (.int .u16 37), .lit (.int .u16 36), .lit (.int .u16 33), .lit (.int .u16 32), .lit (.int .u16 7), .lit (.int .u16 6), .lit (.int .u16 32), .lit (.int .u16 6), .lit (.int .u16 20), .lit (.int .u16 30), .lit (.int .u16 15), .lit (.int .u16 33), .lit (.int .u16 80), .lit (.int .u16 14), .lit (.int .u16 29), .lit (.int .u16 14), .lit (.int .u16 81), .lit (.int .u16 13), .lit (.int .u16 35), .lit (.int .u16 13), .lit (.int .u16 12), .lit (.int .u16 34), .lit (.int .u16 82), .lit (.int .u16 11), .lit (.int .u16 12), .lit (.int .u16 83), .lit (.int .u16 19), .lit (.int .u16 11), .lit (.int .u16 84), .lit (.int .u16 18), .lit (.int .u16 10), .lit (.int .u16 17), .lit (.int .u16 9), .lit (.int .u16 16), .lit (.int .u16 8), .lit (.int .u16 22), .lit (.int .u16 85), .lit (.int .u16 21), .lit (.int .u16 20), .lit (.int .u16 28), .lit (.int .u16 27), .lit (.int .u16 33), .lit (.int .u16 32), .lit (.int .u16 31), .lit (.int .u16 30), .lit (.int .u16 29), .lit (.int .u16 28), .lit (.int .u16 27), .lit (.int .u16 26), .lit (.int .u16 34), .lit (.int .u16 35), .lit (.int .u16 86), .lit (.int .u16 87), .lit (.int .u16 7), .lit (.int .u16 25), .lit (.int .u16 5), .lit (.int .u16 15), .lit (.int .u16 4), .lit (.int .u16 14), .lit (.int .u16 13), .lit (.int .u16 12), .lit (.int .u16 19), .lit (.int .u16 18), .lit (.int .u16 17), .lit (.int .u16 16), .lit (.int .u16 26), .lit (.int .u16 25), .lit (.int .u16 24), .lit (.int .u16 23), .lit (.int .u16 22), .lit (.int .u16 21), .lit (.int .u16 20), .lit (.int .u16 19), .lit (.int .u16 24), .lit (.int .u16 23), .lit (.int .u16 22), .lit (.int .u16 21), .lit (.int .u16 20), .lit (.int .u16 19), .lit (.int .u16 18), .lit (.int .u16 17), .lit (.int .u16 7), .lit (.int .u16 6), .lit (.int .u16 5), .lit (.int .u16 4), .lit (.int .u16 36), .lit (.int .u16 37), .lit (.int .u16 38), .lit (.int .u16 39), .lit (.int .u16 88), .lit (.int .u16 89), .lit (.int .u16 90), .lit (.int .u16 91), .lit (.int .u16 92), .lit (.int .u16 93), .lit (.int .u16 94), .lit (.int .u16 95), .lit (.int .u16 3)]
def laid_overspill_tcoef_lengths {H : Type} : DataW H := .agg [.lit (.int .u8 2), .lit (.int .u8 4), .lit (.int .u8 6), .lit (.int .u8 7), .lit (.int .u8 8), .lit (.int .u8 9), .lit (.int .u8 9), .lit (.int .u8 10), .lit (.int .u8 10), .lit (.int .u8 11), .lit (.int .u8 11), .lit (.int .u8 11), .lit (.int .u8 3), .lit (.int .u8 6), .lit (.int .u8 8), .lit (.int .u8 10), .lit (.int .u8 11), .lit (.int .u8 12), .lit (.int .u8 4), .lit (.int .u8 8), .lit (.int .u8 10), .lit (.int .u8 12), .lit (.int .u8 5), .lit (.int .u8 9), .lit (.int .u8 10), .lit (.int .u8 5), .lit (.int .u8 9), .lit (.int .u8 12), .lit (.int .u8 5), .lit (.int .u8 10), .lit (.int .u8 12), .lit (.int .u8 6), .lit (.int .u8 10), .lit (.int .u8 12), .lit (.int .u8 6), .lit (.int .u8 10), .lit (.int .u8 6), .lit (.int .u8 10), .lit (.int .u8 6), .lit (.int .u8 10), .lit (.int .u8 7), .lit (.int .u8 12), .lit (.int .u8 7), .lit (.int .u8 7), .lit (.int .u8 8), .lit (.int .u8 8), .lit (.int .u8 9), .lit (.int .u8 9), .lit (.int .u8 9), .lit (.int .u8 9), .lit (.int .u8 9), .lit (.int .u8 9), .lit (.int .u8 9), .lit (.int .u8 9), .lit (.int .u8 11), .lit (.int .u8 11), .lit (.int .u8 12), .lit (.int .u8 12), .lit (.int .u8 4), .lit (.int .u8 9), .lit (.int .u8 11), .lit (.int .u8 6), .lit (.int .u8 11), .lit (.int .u8 6), .lit (.int .u8 6), .lit (.int .u8 6), .lit (.int .u8 7), .lit (.int .u8 7), .lit (.int .u8 7), .lit (.int .u8 7), .lit (.int .u8 8), .lit (.int .u8 8), .lit (.int .u8 8), .lit (.int .u8 8), .lit (.int .u8 8), .lit (.int .u8 8), .lit (.int .u8 8), .lit (.int .u8 8), .lit (.int .u8 9), .lit (.int .u8 9), .lit (.int .u8 9), .lit (.int .u8 9), .lit (.int .u8 9), .lit (.int .u8 9), .lit (.int .u8 9), .lit (.int .u8 9), .lit (.int .u8 10), .lit (.int .u8 10), .lit (.int .u8 10), .lit (.int .u8 10), .lit (.int .u8 11), .lit (.int .u8 11), .lit (.int .u8 11), .lit (.int .u8 11), .lit (.int .u8 12), .lit (.int .u8 12), .lit (.int .u8 12), .lit (.int .u8 12), .lit (.int .u8 12), .lit (.int .u8 12), .lit (.int .u8 12), .lit (.int .u8 12), .lit (.int .u8 7)]
def laid_overspill_tcoef_ahead {H : Type} : DataW H := .agg [.lit (.int .u8 12), .lit (.int .u8 6), .lit (.int .u8 4), .lit (.int .u8 3), .lit (.int .u8 3), .lit (.int .u8 3), .lit (.int .u8 3), .lit (.int .u8 2), .lit (.int .u8 2), .lit (.int .u8 2), .lit (.int .u8 2)]
def laid_overspill_dct_weights {H : Type} : DataW H := .agg [.lit (.int .i64 64), .lit (.int .i64 64), .lit (.int .i64 64), .lit (.int .i64 64), .lit (.int .i64 64), .lit (.int .i64 64), .lit (.int .i64 64), .lit (.int .i64 64), .lit (.int .i64 89), .lit (.int .i64 75), .lit (.int .i64 50), .lit (.int .i64 18), .lit (.int .i64 (-18)), .lit (.int .i64 (-50)), .lit (.int .i64 (-75)), .lit (.int .i64 (-89)), .lit (.int .i64 83), .lit (.int .i64 36), .lit (.int .i64 (-36)), .lit (.int .i64 (-83)), .lit (.int .i64 (-83)), .lit (.int .i64 (-36)), .lit (.int .i64 36), .lit (.int .i64 83), .lit (.int .i64 75), .lit (.int .i64 (-18)), .lit (.int .i64 (-89)), .lit (.int .i64 (-50)), .lit (.int .i64 50), .lit (.int .i64 89), .lit (.int .i64 18), .lit (.int .i64 (-75)), .lit (.int .i64 64), .lit (.int .i64 (-64)), .lit (.int .i64 (-64)), .lit (.int .i64 64), .lit (.int .i64 64), .lit (.int .i64 (-64)), .lit (.int .i64 (-64)), .lit (.int .i64 64), .lit (.int .i64 50), .lit (.int .i64 (-89)), .lit (.int .i64 18), .lit (.int .i64 75), .lit (.int .i64 (-75)), .lit (.int .i64 (-18)), .lit (.int .i64 89), .lit (.int .i64 (-50)), .lit (.int .i64 36), .lit (.int .i64 (-83)), .lit (.int .i64 83), .lit (.int .i64 (-36)), .lit (.int .i64 (-36)), .lit (.int .i64 83), .lit (.int .i64 (-83)), .lit (.int .i64 36), .lit (.int .i64 18), .lit (.int .i64 (-50)), .lit (.int .i64 75), .lit (.int .i64 (-89)), .lit (.int .i64 89), .lit (.int .i64 (-75)), .lit (.int .i64 50), .lit (.int .i64 (-18))]
def laid_overspill_steps_codes {H : Type} : DataW H := .agg [.agg [.lit (.string [48, 48]), .lit (.int .i64 (-1))], .agg [.lit (.string [48, 49]), .lit (.int .i64 (-2))], .agg [.lit (.string [49, 48]), .lit (.int .i64 1)], .agg [.lit (.string [49, 49]), .lit (.int .i64 2)]]

/-- 'overspilllaw32.ScreensNext': WHATEVER THE INPUT: true; the input reads as it did. -/
def screensNextSpec : ChangeSpec := { name := "screensNext", fn := fun _ => fun
  | [d1, d2] => { results := [.lit (.bool true)], args := [d1, d2] }
  | _ => none }
def screensNextRow : OpenClaim := { program := "ytnamlooifcpoaaagreatdoor", sum := "46d11a4d25492399f5e902d7ede26b29a98f6768a6e5f7338340a04d9593359b", func := "overspill/overspilllaw32.ScreensNext", spec := "screensNext", inPlace := ["internal/abi.NoEscape", "internal/bytealg.MakeNoZero"], unfollowed := true, recurses := true, named := ["overspill/steps.codes", "overspill/tcoef.ahead", "overspill/tcoef.codes", "overspill/tcoef.lengths", "overspill/scan.places", "overspill/dct.weights"], apart := false, laid := [("overspill/scan.places", laid_overspill_scan_places), ("overspill/tcoef.codes", laid_overspill_tcoef_codes), ("overspill/tcoef.lengths", laid_overspill_tcoef_lengths), ("overspill/tcoef.ahead", laid_overspill_tcoef_ahead), ("overspill/dct.weights", laid_overspill_dct_weights), ("overspill/steps.codes", laid_overspill_steps_codes)] }
def ScreensNextSaid : Prop := screensNextRow.holds Tryz.pinned (OpenSpec.ofChange screensNextSpec)

/-- ITS FALSE NEIGHBOUR: 'it returns false'. Refute it at one input. -/
def screensNextWrong : ChangeSpec := { name := "screensNext", fn := fun _ => fun
  | [d1, d2] => { results := [.lit (.bool false)], args := [d1, d2] }
  | _ => none }
def ScreensNextWrongFalsely : Prop := screensNextRow.holds Tryz.pinned (OpenSpec.ofChange screensNextWrong)

/-- 'overspilllaw32.ScreensStill': WHATEVER THE INPUT: true; the input reads as it did. -/
def screensStillSpec : ChangeSpec := { name := "screensStill", fn := fun _ => fun
  | [d1, d2, d3] => { results := [.lit (.bool true)], args := [d1, d2, d3] }
  | _ => none }
def screensStillRow : OpenClaim := { program := "ytnamlooifcpoaaagreatdoor", sum := "46d11a4d25492399f5e902d7ede26b29a98f6768a6e5f7338340a04d9593359b", func := "overspill/overspilllaw32.ScreensStill", spec := "screensStill", inPlace := ["internal/abi.NoEscape", "internal/bytealg.MakeNoZero"], unfollowed := true, recurses := true, named := ["overspill/steps.codes", "overspill/tcoef.ahead", "overspill/tcoef.codes", "overspill/tcoef.lengths", "overspill/scan.places", "overspill/dct.weights"], apart := false, laid := [("overspill/scan.places", laid_overspill_scan_places), ("overspill/tcoef.codes", laid_overspill_tcoef_codes), ("overspill/tcoef.lengths", laid_overspill_tcoef_lengths), ("overspill/tcoef.ahead", laid_overspill_tcoef_ahead), ("overspill/dct.weights", laid_overspill_dct_weights), ("overspill/steps.codes", laid_overspill_steps_codes)] }
def ScreensStillSaid : Prop := screensStillRow.holds Tryz.pinned (OpenSpec.ofChange screensStillSpec)

/-- ITS FALSE NEIGHBOUR: 'it returns false'. Refute it at one input. -/
def screensStillWrong : ChangeSpec := { name := "screensStill", fn := fun _ => fun
  | [d1, d2, d3] => { results := [.lit (.bool false)], args := [d1, d2, d3] }
  | _ => none }
def ScreensStillWrongFalsely : Prop := screensStillRow.holds Tryz.pinned (OpenSpec.ofChange screensStillWrong)

/- THE SECOND FORM. 'bulk': how many values and letters a reading holds, each counted each time it is reached (what is shared counts as often as it is met; a slice's spare places count too). A statement '..UptoSaid' is the law's where the arguments, and the package variables that the reading takes, are together of bulk at most 1048576: NARROWER than '..Said'. Prove '..Said' where nothing that the law and all that it calls make is longer than what came in: it says more and counts as full. Else prove '..UptoSaid'. A law counts once. -/
mutual
def uptoBulk {H : Type} : DataW H → Nat
  | .lit (.string bytes) => bytes.length + 1
  | .lit _ => 1
  | .nil => 1
  | .ptr d => uptoBulk d + 1
  | .slice elems spare => uptoBulkAll elems + uptoBulkAll spare + 1
  | .agg parts => uptoBulkAll parts + 1
  | .iface _ d => uptoBulk d + 1
  | .map entries => uptoBulkEntries entries + 1
  | .held _ => 1
def uptoBulkAll {H : Type} : List (DataW H) → Nat
  | [] => 0
  | d :: r => uptoBulk d + uptoBulkAll r
def uptoBulkEntries {H : Type} : List (Lit × DataW H) → Nat
  | [] => 0
  | x :: r => uptoBulkEntry x + uptoBulkEntries r
def uptoBulkEntry {H : Type} : Lit × DataW H → Nat
  | (.string bytes, d) => bytes.length + uptoBulk d + 1
  | (_, d) => uptoBulk d + 1
 end
def uptoSmall : (H : Type) → List (DataW H) → Bool := fun _ ds => decide (uptoBulkAll ds ≤ 1048576)
def OpenSpec.upto (s : _root_.Go.ChangeSpec) : _root_.Go.OpenSpec := { _root_.Go.OpenSpec.ofChange s with cond := some uptoSmall }

/-- 'overspilllaw32.ScreensNext', WHERE WHAT IT READS IS OF BULK AT MOST 1048576: true; the input reads as it did. -/
def screensNextUptoRow : OpenClaim := { program := "ytnamlooifcpoaaagreatdoor", sum := "46d11a4d25492399f5e902d7ede26b29a98f6768a6e5f7338340a04d9593359b", func := "overspill/overspilllaw32.ScreensNext", spec := "screensNext", inPlace := ["internal/abi.NoEscape", "internal/bytealg.MakeNoZero"], unfollowed := true, recurses := true, named := ["overspill/steps.codes", "overspill/tcoef.ahead", "overspill/tcoef.codes", "overspill/tcoef.lengths", "overspill/scan.places", "overspill/dct.weights"], apart := false, laid := [("overspill/scan.places", laid_overspill_scan_places), ("overspill/tcoef.codes", laid_overspill_tcoef_codes), ("overspill/tcoef.lengths", laid_overspill_tcoef_lengths), ("overspill/tcoef.ahead", laid_overspill_tcoef_ahead), ("overspill/dct.weights", laid_overspill_dct_weights), ("overspill/steps.codes", laid_overspill_steps_codes)], narrowed := true }
def ScreensNextUptoSaid : Prop := screensNextUptoRow.holds Tryz.pinned (OpenSpec.upto screensNextSpec)

/-- 'overspilllaw32.ScreensStill', WHERE WHAT IT READS IS OF BULK AT MOST 1048576: true; the input reads as it did. -/
def screensStillUptoRow : OpenClaim := { program := "ytnamlooifcpoaaagreatdoor", sum := "46d11a4d25492399f5e902d7ede26b29a98f6768a6e5f7338340a04d9593359b", func := "overspill/overspilllaw32.ScreensStill", spec := "screensStill", inPlace := ["internal/abi.NoEscape", "internal/bytealg.MakeNoZero"], unfollowed := true, recurses := true, named := ["overspill/steps.codes", "overspill/tcoef.ahead", "overspill/tcoef.codes", "overspill/tcoef.lengths", "overspill/scan.places", "overspill/dct.weights"], apart := false, laid := [("overspill/scan.places", laid_overspill_scan_places), ("overspill/tcoef.codes", laid_overspill_tcoef_codes), ("overspill/tcoef.lengths", laid_overspill_tcoef_lengths), ("overspill/tcoef.ahead", laid_overspill_tcoef_ahead), ("overspill/dct.weights", laid_overspill_dct_weights), ("overspill/steps.codes", laid_overspill_steps_codes)], narrowed := true }
def ScreensStillUptoSaid : Prop := screensStillUptoRow.holds Tryz.pinned (OpenSpec.upto screensStillSpec)

end Rows
end Go.Proofs.YtnamlooifcpoaaaGreatDoor
