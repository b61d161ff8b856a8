/-
  NARROWER THAN 'FOR EVERY INPUT', by the rows' own cells (each row's printed sentence says how): CbpyRows: laid · CbpyTakes: laid · CbpyBack: laid.
  DERIVED. THE GIVEN ROWS OF THIS SEAT. 3 by the template 'for every input the law returns true; each argument reads behind the call as it read before'; 0 by the template 'total and deterministic' (their statements: YtfechonaghjcnaaDoorTotals.lean).
  GIVEN WITH THE SEED: the statements are not yours to turn. If you find one false, say at which input.
  Laid BY PROGRAM, IN A SANDBOX (cutbox-rows.mjs): the forced cells as the released guide's own fill.sh prints them over the translation 004a729f854c4664… (all of the seat's roots in one cut). By AI agents, Wed Nov 11 2026. No macro, syntax, notation, axiom, sorry.
-/
import Derived.Test.YtfechonaghjcnaaDoorChecked
import GoSem.PinnedTables
import GoSem.Claim
import GoSem.ClaimJoined
import GoSem.ClaimMapViews
import Derived.JoinedTies
import Derived.KernelRfl
namespace Go.Proofs.YtfechonaghjcnaaDoor
/- THE CELL 'sum', in the pinned program and in every row, IS THE sha256 OF THE DUMP (.gsa) THAT YtfechonaghjcnaaDoorProg.lean LOADS. Nothing in Lean hashes anything: it is a label: what it is worth is what the hold of that sum in a sandbox is worth. -/
noncomputable def Tryd.pinned : Pinned := { name := "ytfechonaghjcnaadoor", sum := "004a729f854c46640ac49917d081a4a40087b983defc15ec551b2db9bffb3563", checked := Tryd.checked }
namespace Rows
def none {H : Type} : Left H := { results := [], args := [] }

/- WHAT THE LISTED PACKAGE-LEVEL VARIABLES READ AS WHEN THE CALL BEGINS. Each datum BY PROGRAM (the guide's laid-datum.mjs) off the statement by which the dump's own 'gosem.cut.vars' lays the variable. In a bare row this is a premise. The card (YtfechonaghjcnaaDoorCards.lean) ties it to the program's text. -/
def laid_unicode_utf8_acceptRanges {H : Type} : DataW H := .agg [.agg [.lit (.int .u8 128), .lit (.int .u8 191)], .agg [.lit (.int .u8 160), .lit (.int .u8 191)], .agg [.lit (.int .u8 128), .lit (.int .u8 159)], .agg [.lit (.int .u8 144), .lit (.int .u8 191)], .agg [.lit (.int .u8 128), .lit (.int .u8 143)], .agg [.lit (.int .u8 0), .lit (.int .u8 0)], .agg [.lit (.int .u8 0), .lit (.int .u8 0)], .agg [.lit (.int .u8 0), .lit (.int .u8 0)], .agg [.lit (.int .u8 0), .lit (.int .u8 0)], .agg [.lit (.int .u8 0), .lit (.int .u8 0)], .agg [.lit (.int .u8 0), .lit (.int .u8 0)], .agg [.lit (.int .u8 0), .lit (.int .u8 0)], .agg [.lit (.int .u8 0), .lit (.int .u8 0)], .agg [.lit (.int .u8 0), .lit (.int .u8 0)], .agg [.lit (.int .u8 0), .lit (.int .u8 0)], .agg [.lit (.int .u8 0), .lit (.int .u8 0)]]
def laid_overspill_cbpy_rows {H : Type} : DataW H := .agg [.lit (.string [48, 48, 49, 49]), .lit (.string [48, 48, 49, 48, 49]), .lit (.string [48, 48, 49, 48, 48]), .lit (.string [49, 48, 48, 49]), .lit (.string [48, 48, 48, 49, 49]), .lit (.string [48, 49, 49, 49]), .lit (.string [48, 48, 48, 48, 49, 48]), .lit (.string [49, 48, 49, 49]), .lit (.string [48, 48, 48, 49, 48]), .lit (.string [48, 48, 48, 48, 49, 49]), .lit (.string [48, 49, 48, 49]), .lit (.string [49, 48, 49, 48]), .lit (.string [48, 49, 48, 48]), .lit (.string [49, 48, 48, 48]), .lit (.string [48, 49, 49, 48]), .lit (.string [49, 49])]
/-- One of Go's own tables, pinned by name: the form's constant. -/
def laid_unicode_utf8_first : DataW Unit := Go.Pinned.utf8First

/-- 'overspilllaw07.CbpyRows': WHATEVER THE INPUT: true; the input reads as it did. -/
def cbpyRowsSpec : ChangeSpec := { name := "cbpyRows", fn := fun _ => fun
  | [d1, d2] => { results := [.lit (.bool true)], args := [d1, d2] }
  | _ => none }
def cbpyRowsRow : OpenClaim := { program := "ytfechonaghjcnaadoor", sum := "004a729f854c46640ac49917d081a4a40087b983defc15ec551b2db9bffb3563", func := "overspill/overspilllaw07.CbpyRows", spec := "cbpyRows", inPlace := ["internal/bytealg.IndexByteString", "internal/bytealg.IndexString", "internal/bytealg.abigen_runtime_cmpstring"], unfollowed := true, recurses := true, named := ["overspill/cbpy.rows", "unicode/utf8.first", "unicode/utf8.acceptRanges", "internal/bytealg.MaxLen"], apart := false, laid := [("unicode/utf8.acceptRanges", laid_unicode_utf8_acceptRanges), ("overspill/cbpy.rows", laid_overspill_cbpy_rows), ("unicode/utf8.first", laid_unicode_utf8_first)] }
def CbpyRowsSaid : Prop := cbpyRowsRow.holds Tryd.pinned (OpenSpec.ofChange cbpyRowsSpec)

/-- ITS FALSE NEIGHBOUR: 'it returns false'. Refute it at one input. -/
def cbpyRowsWrong : ChangeSpec := { name := "cbpyRows", fn := fun _ => fun
  | [d1, d2] => { results := [.lit (.bool false)], args := [d1, d2] }
  | _ => none }
def CbpyRowsWrongFalsely : Prop := cbpyRowsRow.holds Tryd.pinned (OpenSpec.ofChange cbpyRowsWrong)

/-- 'overspilllaw07.CbpyTakes': WHATEVER THE INPUT: true; the input reads as it did. -/
def cbpyTakesSpec : ChangeSpec := { name := "cbpyTakes", fn := fun _ => fun
  | [d1, d2, d3] => { results := [.lit (.bool true)], args := [d1, d2, d3] }
  | _ => none }
def cbpyTakesRow : OpenClaim := { program := "ytfechonaghjcnaadoor", sum := "004a729f854c46640ac49917d081a4a40087b983defc15ec551b2db9bffb3563", func := "overspill/overspilllaw07.CbpyTakes", spec := "cbpyTakes", inPlace := ["internal/bytealg.IndexByteString", "internal/bytealg.IndexString", "internal/bytealg.abigen_runtime_cmpstring"], unfollowed := true, recurses := true, named := ["overspill/cbpy.rows", "unicode/utf8.first", "unicode/utf8.acceptRanges", "internal/bytealg.MaxLen"], apart := false, laid := [("unicode/utf8.acceptRanges", laid_unicode_utf8_acceptRanges), ("overspill/cbpy.rows", laid_overspill_cbpy_rows), ("unicode/utf8.first", laid_unicode_utf8_first)] }
def CbpyTakesSaid : Prop := cbpyTakesRow.holds Tryd.pinned (OpenSpec.ofChange cbpyTakesSpec)

/-- ITS FALSE NEIGHBOUR: 'it returns false'. Refute it at one input. -/
def cbpyTakesWrong : ChangeSpec := { name := "cbpyTakes", fn := fun _ => fun
  | [d1, d2, d3] => { results := [.lit (.bool false)], args := [d1, d2, d3] }
  | _ => none }
def CbpyTakesWrongFalsely : Prop := cbpyTakesRow.holds Tryd.pinned (OpenSpec.ofChange cbpyTakesWrong)

/-- 'overspilllaw07.CbpyBack': WHATEVER THE INPUT: true; the input reads as it did. -/
def cbpyBackSpec : ChangeSpec := { name := "cbpyBack", fn := fun _ => fun
  | [d1, d2, d3] => { results := [.lit (.bool true)], args := [d1, d2, d3] }
  | _ => none }
def cbpyBackRow : OpenClaim := { program := "ytfechonaghjcnaadoor", sum := "004a729f854c46640ac49917d081a4a40087b983defc15ec551b2db9bffb3563", func := "overspill/overspilllaw07.CbpyBack", spec := "cbpyBack", inPlace := ["internal/bytealg.IndexByteString", "internal/bytealg.IndexString", "internal/bytealg.abigen_runtime_cmpstring"], unfollowed := true, recurses := true, named := ["overspill/cbpy.rows", "unicode/utf8.first", "unicode/utf8.acceptRanges", "internal/bytealg.MaxLen"], apart := false, laid := [("unicode/utf8.acceptRanges", laid_unicode_utf8_acceptRanges), ("overspill/cbpy.rows", laid_overspill_cbpy_rows), ("unicode/utf8.first", laid_unicode_utf8_first)] }
def CbpyBackSaid : Prop := cbpyBackRow.holds Tryd.pinned (OpenSpec.ofChange cbpyBackSpec)

/-- ITS FALSE NEIGHBOUR: 'it returns false'. Refute it at one input. -/
def cbpyBackWrong : ChangeSpec := { name := "cbpyBack", fn := fun _ => fun
  | [d1, d2, d3] => { results := [.lit (.bool false)], args := [d1, d2, d3] }
  | _ => none }
def CbpyBackWrongFalsely : Prop := cbpyBackRow.holds Tryd.pinned (OpenSpec.ofChange cbpyBackWrong)

/- THE SECOND FORM. 'bulk': how many values and letters a reading holds, each counted each time it is reached (what is shared counts as often as it is met; a slice's spare places count too). A statement '..UptoSaid' is the law's where the arguments, and the package variables that the reading takes, are together of bulk at most 1048576: NARROWER than '..Said'. Prove '..Said' where nothing that the law and all that it calls make is longer than what came in: it says more and counts as full. Else prove '..UptoSaid'. A law counts once. -/
mutual
def uptoBulk {H : Type} : DataW H → Nat
  | .lit (.string bytes) => bytes.length + 1
  | .lit _ => 1
  | .nil => 1
  | .ptr d => uptoBulk d + 1
  | .slice elems spare => uptoBulkAll elems + uptoBulkAll spare + 1
  | .agg parts => uptoBulkAll parts + 1
  | .iface _ d => uptoBulk d + 1
  | .map entries => uptoBulkEntries entries + 1
  | .held _ => 1
def uptoBulkAll {H : Type} : List (DataW H) → Nat
  | [] => 0
  | d :: r => uptoBulk d + uptoBulkAll r
def uptoBulkEntries {H : Type} : List (Lit × DataW H) → Nat
  | [] => 0
  | x :: r => uptoBulkEntry x + uptoBulkEntries r
def uptoBulkEntry {H : Type} : Lit × DataW H → Nat
  | (.string bytes, d) => bytes.length + uptoBulk d + 1
  | (_, d) => uptoBulk d + 1
 end
def uptoSmall : (H : Type) → List (DataW H) → Bool := fun _ ds => decide (uptoBulkAll ds ≤ 1048576)
def OpenSpec.upto (s : _root_.Go.ChangeSpec) : _root_.Go.OpenSpec := { _root_.Go.OpenSpec.ofChange s with cond := some uptoSmall }

/-- 'overspilllaw07.CbpyRows', WHERE WHAT IT READS IS OF BULK AT MOST 1048576: true; the input reads as it did. -/
def cbpyRowsUptoRow : OpenClaim := { program := "ytfechonaghjcnaadoor", sum := "004a729f854c46640ac49917d081a4a40087b983defc15ec551b2db9bffb3563", func := "overspill/overspilllaw07.CbpyRows", spec := "cbpyRows", inPlace := ["internal/bytealg.IndexByteString", "internal/bytealg.IndexString", "internal/bytealg.abigen_runtime_cmpstring"], unfollowed := true, recurses := true, named := ["overspill/cbpy.rows", "unicode/utf8.first", "unicode/utf8.acceptRanges", "internal/bytealg.MaxLen"], apart := false, laid := [("unicode/utf8.acceptRanges", laid_unicode_utf8_acceptRanges), ("overspill/cbpy.rows", laid_overspill_cbpy_rows), ("unicode/utf8.first", laid_unicode_utf8_first)], narrowed := true }
def CbpyRowsUptoSaid : Prop := cbpyRowsUptoRow.holds Tryd.pinned (OpenSpec.upto cbpyRowsSpec)

/-- 'overspilllaw07.CbpyTakes', WHERE WHAT IT READS IS OF BULK AT MOST 1048576: true; the input reads as it did. -/
def cbpyTakesUptoRow : OpenClaim := { program := "ytfechonaghjcnaadoor", sum := "004a729f854c46640ac49917d081a4a40087b983defc15ec551b2db9bffb3563", func := "overspill/overspilllaw07.CbpyTakes", spec := "cbpyTakes", inPlace := ["internal/bytealg.IndexByteString", "internal/bytealg.IndexString", "internal/bytealg.abigen_runtime_cmpstring"], unfollowed := true, recurses := true, named := ["overspill/cbpy.rows", "unicode/utf8.first", "unicode/utf8.acceptRanges", "internal/bytealg.MaxLen"], apart := false, laid := [("unicode/utf8.acceptRanges", laid_unicode_utf8_acceptRanges), ("overspill/cbpy.rows", laid_overspill_cbpy_rows), ("unicode/utf8.first", laid_unicode_utf8_first)], narrowed := true }
def CbpyTakesUptoSaid : Prop := cbpyTakesUptoRow.holds Tryd.pinned (OpenSpec.upto cbpyTakesSpec)

/-- 'overspilllaw07.CbpyBack', WHERE WHAT IT READS IS OF BULK AT MOST 1048576: true; the input reads as it did. -/
def cbpyBackUptoRow : OpenClaim := { program := "ytfechonaghjcnaadoor", sum := "004a729f854c46640ac49917d081a4a40087b983defc15ec551b2db9bffb3563", func := "overspill/overspilllaw07.CbpyBack", spec := "cbpyBack", inPlace := ["internal/bytealg.IndexByteString", "internal/bytealg.IndexString", "internal/bytealg.abigen_runtime_cmpstring"], unfollowed := true, recurses := true, named := ["overspill/cbpy.rows", "unicode/utf8.first", "unicode/utf8.acceptRanges", "internal/bytealg.MaxLen"], apart := false, laid := [("unicode/utf8.acceptRanges", laid_unicode_utf8_acceptRanges), ("overspill/cbpy.rows", laid_overspill_cbpy_rows), ("unicode/utf8.first", laid_unicode_utf8_first)], narrowed := true }
def CbpyBackUptoSaid : Prop := cbpyBackUptoRow.holds Tryd.pinned (OpenSpec.upto cbpyBackSpec)

end Rows
end Go.Proofs.YtfechonaghjcnaaDoor
