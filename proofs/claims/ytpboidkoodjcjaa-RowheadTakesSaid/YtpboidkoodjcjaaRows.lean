/-
  No cell of these rows narrows 'for every input' (looked for: loops, veiled, ifaces, maps, wideKeys, modest, calm, conditions, laid).
  DERIVED. THE GIVEN ROWS OF THIS SEAT. 2 by the template 'for every input the law returns true; each argument reads behind the call as it read before'; 0 by the template 'total and deterministic' (their statements: YtpboidkoodjcjaaTotals.lean).
  GIVEN WITH THE SEED: the statements are not yours to turn. If you find one false, say at which input.
  Laid BY PROGRAM, IN A SANDBOX (cutbox-rows.mjs): the forced cells as the released guide's own fill.sh prints them over the translation e0f53eb5260cb52f… (all of the seat's roots in one cut). By AI agents, Wed Nov 11 2026. No macro, syntax, notation, axiom, sorry.
-/
import Derived.Test.YtpboidkoodjcjaaChecked
import GoSem.Claim
import GoSem.ClaimJoined
import GoSem.ClaimMapViews
import Derived.JoinedTies
import Derived.KernelRfl
namespace Go.Proofs.Ytpboidkoodjcjaa
/- THE CELL 'sum', in the pinned program and in every row, IS THE sha256 OF THE DUMP (.gsa) THAT YtpboidkoodjcjaaProg.lean LOADS. Nothing in Lean hashes anything: it is a label: what it is worth is what the hold of that sum in a sandbox is worth. -/
noncomputable def Try.pinned : Pinned := { name := "ytpboidkoodjcjaa", sum := "e0f53eb5260cb52ff67c2ffd5795018b09486b9c172c0bff88bcc11f72ffe235", checked := Try.checked }
namespace Rows
def none {H : Type} : Left H := { results := [], args := [] }

/-- 'overspilllaw23.RowheadPuts': WHATEVER THE INPUT: true; the input reads as it did. -/
def rowheadPutsSpec : ChangeSpec := { name := "rowheadPuts", fn := fun _ => fun
  | [d1, d2, d3] => { results := [.lit (.bool true)], args := [d1, d2, d3] }
  | _ => none }
def rowheadPutsRow : OpenClaim := { program := "ytpboidkoodjcjaa", sum := "e0f53eb5260cb52ff67c2ffd5795018b09486b9c172c0bff88bcc11f72ffe235", func := "overspill/overspilllaw23.RowheadPuts", spec := "rowheadPuts", apart := false }
def RowheadPutsSaid : Prop := rowheadPutsRow.holds Try.pinned (OpenSpec.ofChange rowheadPutsSpec)

/-- ITS FALSE NEIGHBOUR: 'it returns false'. Refute it at one input. -/
def rowheadPutsWrong : ChangeSpec := { name := "rowheadPuts", fn := fun _ => fun
  | [d1, d2, d3] => { results := [.lit (.bool false)], args := [d1, d2, d3] }
  | _ => none }
def RowheadPutsWrongFalsely : Prop := rowheadPutsRow.holds Try.pinned (OpenSpec.ofChange rowheadPutsWrong)

/-- 'overspilllaw23.RowheadTakes': WHATEVER THE INPUT: true; the input reads as it did. -/
def rowheadTakesSpec : ChangeSpec := { name := "rowheadTakes", fn := fun _ => fun
  | [d1, d2, d3] => { results := [.lit (.bool true)], args := [d1, d2, d3] }
  | _ => none }
def rowheadTakesRow : OpenClaim := { program := "ytpboidkoodjcjaa", sum := "e0f53eb5260cb52ff67c2ffd5795018b09486b9c172c0bff88bcc11f72ffe235", func := "overspill/overspilllaw23.RowheadTakes", spec := "rowheadTakes", apart := false }
def RowheadTakesSaid : Prop := rowheadTakesRow.holds Try.pinned (OpenSpec.ofChange rowheadTakesSpec)

/-- ITS FALSE NEIGHBOUR: 'it returns false'. Refute it at one input. -/
def rowheadTakesWrong : ChangeSpec := { name := "rowheadTakes", fn := fun _ => fun
  | [d1, d2, d3] => { results := [.lit (.bool false)], args := [d1, d2, d3] }
  | _ => none }
def RowheadTakesWrongFalsely : Prop := rowheadTakesRow.holds Try.pinned (OpenSpec.ofChange rowheadTakesWrong)

/- THE SECOND FORM. 'bulk': how many values and letters a reading holds, each counted each time it is reached (what is shared counts as often as it is met; a slice's spare places count too). A statement '..UptoSaid' is the law's where the arguments, and the package variables that the reading takes, are together of bulk at most 1048576: NARROWER than '..Said'. Prove '..Said' where nothing that the law and all that it calls make is longer than what came in: it says more and counts as full. Else prove '..UptoSaid'. A law counts once. -/
mutual
def uptoBulk {H : Type} : DataW H → Nat
  | .lit (.string bytes) => bytes.length + 1
  | .lit _ => 1
  | .nil => 1
  | .ptr d => uptoBulk d + 1
  | .slice elems spare => uptoBulkAll elems + uptoBulkAll spare + 1
  | .agg parts => uptoBulkAll parts + 1
  | .iface _ d => uptoBulk d + 1
  | .map entries => uptoBulkEntries entries + 1
  | .held _ => 1
def uptoBulkAll {H : Type} : List (DataW H) → Nat
  | [] => 0
  | d :: r => uptoBulk d + uptoBulkAll r
def uptoBulkEntries {H : Type} : List (Lit × DataW H) → Nat
  | [] => 0
  | x :: r => uptoBulkEntry x + uptoBulkEntries r
def uptoBulkEntry {H : Type} : Lit × DataW H → Nat
  | (.string bytes, d) => bytes.length + uptoBulk d + 1
  | (_, d) => uptoBulk d + 1
 end
def uptoSmall : (H : Type) → List (DataW H) → Bool := fun _ ds => decide (uptoBulkAll ds ≤ 1048576)
def OpenSpec.upto (s : _root_.Go.ChangeSpec) : _root_.Go.OpenSpec := { _root_.Go.OpenSpec.ofChange s with cond := some uptoSmall }

/-- 'overspilllaw23.RowheadPuts', WHERE WHAT IT READS IS OF BULK AT MOST 1048576: true; the input reads as it did. -/
def rowheadPutsUptoRow : OpenClaim := { program := "ytpboidkoodjcjaa", sum := "e0f53eb5260cb52ff67c2ffd5795018b09486b9c172c0bff88bcc11f72ffe235", func := "overspill/overspilllaw23.RowheadPuts", spec := "rowheadPuts", apart := false, narrowed := true }
def RowheadPutsUptoSaid : Prop := rowheadPutsUptoRow.holds Try.pinned (OpenSpec.upto rowheadPutsSpec)

/-- 'overspilllaw23.RowheadTakes', WHERE WHAT IT READS IS OF BULK AT MOST 1048576: true; the input reads as it did. -/
def rowheadTakesUptoRow : OpenClaim := { program := "ytpboidkoodjcjaa", sum := "e0f53eb5260cb52ff67c2ffd5795018b09486b9c172c0bff88bcc11f72ffe235", func := "overspill/overspilllaw23.RowheadTakes", spec := "rowheadTakes", apart := false, narrowed := true }
def RowheadTakesUptoSaid : Prop := rowheadTakesUptoRow.holds Try.pinned (OpenSpec.upto rowheadTakesSpec)

end Rows
end Go.Proofs.Ytpboidkoodjcjaa
