/-
  No cell of these rows narrows 'for every input' (looked for: loops, veiled, ifaces, maps, wideKeys, modest, calm, conditions, laid).
  DERIVED. THE GIVEN ROWS OF THIS SEAT. 3 by the template 'for every input the law returns true; each argument reads behind the call as it read before'; 0 by the template 'total and deterministic' (their statements: YtekpilodicnncaaTotals.lean).
  GIVEN WITH THE SEED: the statements are not yours to turn. If you find one false, say at which input.
  Laid BY PROGRAM, IN A SANDBOX (cutbox-rows.mjs): the forced cells as the released guide's own fill.sh prints them over the translation 78be7c780834907f… (all of the seat's roots in one cut). By AI agents, Wed Nov 11 2026. No macro, syntax, notation, axiom, sorry.
-/
import Derived.Test.YtekpilodicnncaaChecked
import GoSem.Claim
import GoSem.ClaimJoined
import GoSem.ClaimMapViews
import Derived.JoinedTies
import Derived.KernelRfl
namespace Go.Proofs.Ytekpilodicnncaa
/- THE CELL 'sum', in the pinned program and in every row, IS THE sha256 OF THE DUMP (.gsa) THAT YtekpilodicnncaaProg.lean LOADS. Nothing in Lean hashes anything: it is a label: what it is worth is what the hold of that sum in a sandbox is worth. -/
noncomputable def Try.pinned : Pinned := { name := "ytekpilodicnncaa", sum := "78be7c780834907f772353e525586e14715ec4955f1a0ac6a0c007ca72724125", checked := Try.checked }
namespace Rows
def none {H : Type} : Left H := { results := [], args := [] }

/-- 'overspilllaw03.InbitsReads': WHATEVER THE INPUT: true; the input reads as it did. -/
def inbitsReadsSpec : ChangeSpec := { name := "inbitsReads", fn := fun _ => fun
  | [d1, d2] => { results := [.lit (.bool true)], args := [d1, d2] }
  | _ => none }
def inbitsReadsRow : OpenClaim := { program := "ytekpilodicnncaa", sum := "78be7c780834907f772353e525586e14715ec4955f1a0ac6a0c007ca72724125", func := "overspill/overspilllaw03.InbitsReads", spec := "inbitsReads", apart := false }
def InbitsReadsSaid : Prop := inbitsReadsRow.holds Try.pinned (OpenSpec.ofChange inbitsReadsSpec)

/-- ITS FALSE NEIGHBOUR: 'it returns false'. Refute it at one input. -/
def inbitsReadsWrong : ChangeSpec := { name := "inbitsReads", fn := fun _ => fun
  | [d1, d2] => { results := [.lit (.bool false)], args := [d1, d2] }
  | _ => none }
def InbitsReadsWrongFalsely : Prop := inbitsReadsRow.holds Try.pinned (OpenSpec.ofChange inbitsReadsWrong)

/-- 'overspilllaw03.InbitsBack': WHATEVER THE INPUT: true; the input reads as it did. -/
def inbitsBackSpec : ChangeSpec := { name := "inbitsBack", fn := fun _ => fun
  | [d] => { results := [.lit (.bool true)], args := [d] }
  | _ => none }
def inbitsBackRow : OpenClaim := { program := "ytekpilodicnncaa", sum := "78be7c780834907f772353e525586e14715ec4955f1a0ac6a0c007ca72724125", func := "overspill/overspilllaw03.InbitsBack", spec := "inbitsBack", apart := false }
def InbitsBackSaid : Prop := inbitsBackRow.holds Try.pinned (OpenSpec.ofChange inbitsBackSpec)

/-- ITS FALSE NEIGHBOUR: 'it returns false'. Refute it at one input. -/
def inbitsBackWrong : ChangeSpec := { name := "inbitsBack", fn := fun _ => fun
  | [d] => { results := [.lit (.bool false)], args := [d] }
  | _ => none }
def InbitsBackWrongFalsely : Prop := inbitsBackRow.holds Try.pinned (OpenSpec.ofChange inbitsBackWrong)

/-- 'overspilllaw03.InbitsNone': WHATEVER THE INPUT: true; the input reads as it did. -/
def inbitsNoneSpec : ChangeSpec := { name := "inbitsNone", fn := fun _ => fun
  | [d] => { results := [.lit (.bool true)], args := [d] }
  | _ => none }
def inbitsNoneRow : OpenClaim := { program := "ytekpilodicnncaa", sum := "78be7c780834907f772353e525586e14715ec4955f1a0ac6a0c007ca72724125", func := "overspill/overspilllaw03.InbitsNone", spec := "inbitsNone", apart := false }
def InbitsNoneSaid : Prop := inbitsNoneRow.holds Try.pinned (OpenSpec.ofChange inbitsNoneSpec)

/-- ITS FALSE NEIGHBOUR: 'it returns false'. Refute it at one input. -/
def inbitsNoneWrong : ChangeSpec := { name := "inbitsNone", fn := fun _ => fun
  | [d] => { results := [.lit (.bool false)], args := [d] }
  | _ => none }
def InbitsNoneWrongFalsely : Prop := inbitsNoneRow.holds Try.pinned (OpenSpec.ofChange inbitsNoneWrong)

/- THE SECOND FORM. 'bulk': how many values and letters a reading holds, each counted each time it is reached (what is shared counts as often as it is met; a slice's spare places count too). A statement '..UptoSaid' is the law's where the arguments, and the package variables that the reading takes, are together of bulk at most 1048576: NARROWER than '..Said'. Prove '..Said' where nothing that the law and all that it calls make is longer than what came in: it says more and counts as full. Else prove '..UptoSaid'. A law counts once. -/
mutual
def uptoBulk {H : Type} : DataW H → Nat
  | .lit (.string bytes) => bytes.length + 1
  | .lit _ => 1
  | .nil => 1
  | .ptr d => uptoBulk d + 1
  | .slice elems spare => uptoBulkAll elems + uptoBulkAll spare + 1
  | .agg parts => uptoBulkAll parts + 1
  | .iface _ d => uptoBulk d + 1
  | .map entries => uptoBulkEntries entries + 1
  | .held _ => 1
def uptoBulkAll {H : Type} : List (DataW H) → Nat
  | [] => 0
  | d :: r => uptoBulk d + uptoBulkAll r
def uptoBulkEntries {H : Type} : List (Lit × DataW H) → Nat
  | [] => 0
  | x :: r => uptoBulkEntry x + uptoBulkEntries r
def uptoBulkEntry {H : Type} : Lit × DataW H → Nat
  | (.string bytes, d) => bytes.length + uptoBulk d + 1
  | (_, d) => uptoBulk d + 1
 end
def uptoSmall : (H : Type) → List (DataW H) → Bool := fun _ ds => decide (uptoBulkAll ds ≤ 1048576)
def OpenSpec.upto (s : _root_.Go.ChangeSpec) : _root_.Go.OpenSpec := { _root_.Go.OpenSpec.ofChange s with cond := some uptoSmall }

/-- 'overspilllaw03.InbitsReads', WHERE WHAT IT READS IS OF BULK AT MOST 1048576: true; the input reads as it did. -/
def inbitsReadsUptoRow : OpenClaim := { program := "ytekpilodicnncaa", sum := "78be7c780834907f772353e525586e14715ec4955f1a0ac6a0c007ca72724125", func := "overspill/overspilllaw03.InbitsReads", spec := "inbitsReads", apart := false, narrowed := true }
def InbitsReadsUptoSaid : Prop := inbitsReadsUptoRow.holds Try.pinned (OpenSpec.upto inbitsReadsSpec)

/-- 'overspilllaw03.InbitsBack', WHERE WHAT IT READS IS OF BULK AT MOST 1048576: true; the input reads as it did. -/
def inbitsBackUptoRow : OpenClaim := { program := "ytekpilodicnncaa", sum := "78be7c780834907f772353e525586e14715ec4955f1a0ac6a0c007ca72724125", func := "overspill/overspilllaw03.InbitsBack", spec := "inbitsBack", apart := false, narrowed := true }
def InbitsBackUptoSaid : Prop := inbitsBackUptoRow.holds Try.pinned (OpenSpec.upto inbitsBackSpec)

/-- 'overspilllaw03.InbitsNone', WHERE WHAT IT READS IS OF BULK AT MOST 1048576: true; the input reads as it did. -/
def inbitsNoneUptoRow : OpenClaim := { program := "ytekpilodicnncaa", sum := "78be7c780834907f772353e525586e14715ec4955f1a0ac6a0c007ca72724125", func := "overspill/overspilllaw03.InbitsNone", spec := "inbitsNone", apart := false, narrowed := true }
def InbitsNoneUptoSaid : Prop := inbitsNoneUptoRow.holds Try.pinned (OpenSpec.upto inbitsNoneSpec)

end Rows
end Go.Proofs.Ytekpilodicnncaa
