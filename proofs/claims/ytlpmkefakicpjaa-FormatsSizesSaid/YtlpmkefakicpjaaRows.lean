/-
  No cell of these rows narrows 'for every input' (looked for: loops, veiled, ifaces, maps, wideKeys, modest, calm, conditions, laid).
  DERIVED. THE GIVEN ROWS OF THIS SEAT. 2 by the template 'for every input the law returns true; each argument reads behind the call as it read before'; 0 by the template 'total and deterministic' (their statements: YtlpmkefakicpjaaTotals.lean).
  GIVEN WITH THE SEED: the statements are not yours to turn. If you find one false, say at which input.
  Laid BY PROGRAM, IN A SANDBOX (cutbox-rows.mjs): the forced cells as the released guide's own fill.sh prints them over the translation 32d5218e2051997c… (all of the seat's roots in one cut). By AI agents, Wed Nov 11 2026. No macro, syntax, notation, axiom, sorry.
-/
import Derived.Test.YtlpmkefakicpjaaChecked
import GoSem.Claim
import GoSem.ClaimJoined
import GoSem.ClaimMapViews
import Derived.JoinedTies
import Derived.KernelRfl
namespace Go.Proofs.Ytlpmkefakicpjaa
/- THE CELL 'sum', in the pinned program and in every row, IS THE sha256 OF THE DUMP (.gsa) THAT YtlpmkefakicpjaaProg.lean LOADS. Nothing in Lean hashes anything: it is a label: what it is worth is what the hold of that sum in a sandbox is worth. -/
noncomputable def Try.pinned : Pinned := { name := "ytlpmkefakicpjaa", sum := "32d5218e2051997ccdf0057c6d5ac013a22331709442be9cfc87bc7d6e0f752a", checked := Try.checked }
namespace Rows
def none {H : Type} : Left H := { results := [], args := [] }

/-- 'overspilllaw16.FormatsSizes': WHATEVER THE INPUT: true; the input reads as it did. -/
def formatsSizesSpec : ChangeSpec := { name := "formatsSizes", fn := fun _ => fun
  | [d1, d2] => { results := [.lit (.bool true)], args := [d1, d2] }
  | _ => none }
def formatsSizesRow : OpenClaim := { program := "ytlpmkefakicpjaa", sum := "32d5218e2051997ccdf0057c6d5ac013a22331709442be9cfc87bc7d6e0f752a", func := "overspill/overspilllaw16.FormatsSizes", spec := "formatsSizes", apart := false }
def FormatsSizesSaid : Prop := formatsSizesRow.holds Try.pinned (OpenSpec.ofChange formatsSizesSpec)

/-- ITS FALSE NEIGHBOUR: 'it returns false'. Refute it at one input. -/
def formatsSizesWrong : ChangeSpec := { name := "formatsSizes", fn := fun _ => fun
  | [d1, d2] => { results := [.lit (.bool false)], args := [d1, d2] }
  | _ => none }
def FormatsSizesWrongFalsely : Prop := formatsSizesRow.holds Try.pinned (OpenSpec.ofChange formatsSizesWrong)

/-- 'overspilllaw16.FormatsRows': WHATEVER THE INPUT: true; the input reads as it did. -/
def formatsRowsSpec : ChangeSpec := { name := "formatsRows", fn := fun _ => fun
  | [d] => { results := [.lit (.bool true)], args := [d] }
  | _ => none }
def formatsRowsRow : OpenClaim := { program := "ytlpmkefakicpjaa", sum := "32d5218e2051997ccdf0057c6d5ac013a22331709442be9cfc87bc7d6e0f752a", func := "overspill/overspilllaw16.FormatsRows", spec := "formatsRows", apart := false }
def FormatsRowsSaid : Prop := formatsRowsRow.holds Try.pinned (OpenSpec.ofChange formatsRowsSpec)

/-- ITS FALSE NEIGHBOUR: 'it returns false'. Refute it at one input. -/
def formatsRowsWrong : ChangeSpec := { name := "formatsRows", fn := fun _ => fun
  | [d] => { results := [.lit (.bool false)], args := [d] }
  | _ => none }
def FormatsRowsWrongFalsely : Prop := formatsRowsRow.holds Try.pinned (OpenSpec.ofChange formatsRowsWrong)

/- THE SECOND FORM. 'bulk': how many values and letters a reading holds, each counted each time it is reached (what is shared counts as often as it is met; a slice's spare places count too). A statement '..UptoSaid' is the law's where the arguments, and the package variables that the reading takes, are together of bulk at most 1048576: NARROWER than '..Said'. Prove '..Said' where nothing that the law and all that it calls make is longer than what came in: it says more and counts as full. Else prove '..UptoSaid'. A law counts once. -/
mutual
def uptoBulk {H : Type} : DataW H → Nat
  | .lit (.string bytes) => bytes.length + 1
  | .lit _ => 1
  | .nil => 1
  | .ptr d => uptoBulk d + 1
  | .slice elems spare => uptoBulkAll elems + uptoBulkAll spare + 1
  | .agg parts => uptoBulkAll parts + 1
  | .iface _ d => uptoBulk d + 1
  | .map entries => uptoBulkEntries entries + 1
  | .held _ => 1
def uptoBulkAll {H : Type} : List (DataW H) → Nat
  | [] => 0
  | d :: r => uptoBulk d + uptoBulkAll r
def uptoBulkEntries {H : Type} : List (Lit × DataW H) → Nat
  | [] => 0
  | x :: r => uptoBulkEntry x + uptoBulkEntries r
def uptoBulkEntry {H : Type} : Lit × DataW H → Nat
  | (.string bytes, d) => bytes.length + uptoBulk d + 1
  | (_, d) => uptoBulk d + 1
 end
def uptoSmall : (H : Type) → List (DataW H) → Bool := fun _ ds => decide (uptoBulkAll ds ≤ 1048576)
def OpenSpec.upto (s : _root_.Go.ChangeSpec) : _root_.Go.OpenSpec := { _root_.Go.OpenSpec.ofChange s with cond := some uptoSmall }

/-- 'overspilllaw16.FormatsSizes', WHERE WHAT IT READS IS OF BULK AT MOST 1048576: true; the input reads as it did. -/
def formatsSizesUptoRow : OpenClaim := { program := "ytlpmkefakicpjaa", sum := "32d5218e2051997ccdf0057c6d5ac013a22331709442be9cfc87bc7d6e0f752a", func := "overspill/overspilllaw16.FormatsSizes", spec := "formatsSizes", apart := false, narrowed := true }
def FormatsSizesUptoSaid : Prop := formatsSizesUptoRow.holds Try.pinned (OpenSpec.upto formatsSizesSpec)

/-- 'overspilllaw16.FormatsRows', WHERE WHAT IT READS IS OF BULK AT MOST 1048576: true; the input reads as it did. -/
def formatsRowsUptoRow : OpenClaim := { program := "ytlpmkefakicpjaa", sum := "32d5218e2051997ccdf0057c6d5ac013a22331709442be9cfc87bc7d6e0f752a", func := "overspill/overspilllaw16.FormatsRows", spec := "formatsRows", apart := false, narrowed := true }
def FormatsRowsUptoSaid : Prop := formatsRowsUptoRow.holds Try.pinned (OpenSpec.upto formatsRowsSpec)

end Rows
end Go.Proofs.Ytlpmkefakicpjaa
