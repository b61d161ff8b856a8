/-
  No cell of these rows narrows 'for every input' (looked for: loops, veiled, ifaces, maps, wideKeys, modest, calm, conditions, laid).
  DERIVED. THE GIVEN ROWS OF THIS SEAT. 3 by the template 'for every input the law returns true; each argument reads behind the call as it read before'; 0 by the template 'total and deterministic' (their statements: YtgapoimickgbbaaTotals.lean).
  GIVEN WITH THE SEED: the statements are not yours to turn. If you find one false, say at which input.
  Laid BY PROGRAM, IN A SANDBOX (cutbox-rows.mjs): the forced cells as the released guide's own fill.sh prints them over the translation b4b8f0fbfcacc33d… (all of the seat's roots in one cut). By AI agents, Wed Nov 11 2026. No macro, syntax, notation, axiom, sorry.
-/
import Derived.Test.YtgapoimickgbbaaChecked
import GoSem.Claim
import GoSem.ClaimJoined
import GoSem.ClaimMapViews
import Derived.JoinedTies
import Derived.KernelRfl
namespace Go.Proofs.Ytgapoimickgbbaa
/- THE CELL 'sum', in the pinned program and in every row, IS THE sha256 OF THE DUMP (.gsa) THAT YtgapoimickgbbaaProg.lean LOADS. Nothing in Lean hashes anything: it is a label: what it is worth is what the hold of that sum in a sandbox is worth. -/
noncomputable def Try.pinned : Pinned := { name := "ytgapoimickgbbaa", sum := "b4b8f0fbfcacc33d424b8ed13f2275600aed54b5703ec233d7983052a5505e81", checked := Try.checked }
namespace Rows
def none {H : Type} : Left H := { results := [], args := [] }

/-- 'overspilllaw02.OutbitsRows': WHATEVER THE INPUT: true; the input reads as it did. -/
def outbitsRowsSpec : ChangeSpec := { name := "outbitsRows", fn := fun _ => fun
  | [d1, d2, d3] => { results := [.lit (.bool true)], args := [d1, d2, d3] }
  | _ => none }
def outbitsRowsRow : OpenClaim := { program := "ytgapoimickgbbaa", sum := "b4b8f0fbfcacc33d424b8ed13f2275600aed54b5703ec233d7983052a5505e81", func := "overspill/overspilllaw02.OutbitsRows", spec := "outbitsRows", apart := false }
def OutbitsRowsSaid : Prop := outbitsRowsRow.holds Try.pinned (OpenSpec.ofChange outbitsRowsSpec)

/-- ITS FALSE NEIGHBOUR: 'it returns false'. Refute it at one input. -/
def outbitsRowsWrong : ChangeSpec := { name := "outbitsRows", fn := fun _ => fun
  | [d1, d2, d3] => { results := [.lit (.bool false)], args := [d1, d2, d3] }
  | _ => none }
def OutbitsRowsWrongFalsely : Prop := outbitsRowsRow.holds Try.pinned (OpenSpec.ofChange outbitsRowsWrong)

/-- 'overspilllaw02.OutbitsWrites': WHATEVER THE INPUT: true; the input reads as it did. -/
def outbitsWritesSpec : ChangeSpec := { name := "outbitsWrites", fn := fun _ => fun
  | [d] => { results := [.lit (.bool true)], args := [d] }
  | _ => none }
def outbitsWritesRow : OpenClaim := { program := "ytgapoimickgbbaa", sum := "b4b8f0fbfcacc33d424b8ed13f2275600aed54b5703ec233d7983052a5505e81", func := "overspill/overspilllaw02.OutbitsWrites", spec := "outbitsWrites", apart := false }
def OutbitsWritesSaid : Prop := outbitsWritesRow.holds Try.pinned (OpenSpec.ofChange outbitsWritesSpec)

/-- ITS FALSE NEIGHBOUR: 'it returns false'. Refute it at one input. -/
def outbitsWritesWrong : ChangeSpec := { name := "outbitsWrites", fn := fun _ => fun
  | [d] => { results := [.lit (.bool false)], args := [d] }
  | _ => none }
def OutbitsWritesWrongFalsely : Prop := outbitsWritesRow.holds Try.pinned (OpenSpec.ofChange outbitsWritesWrong)

/-- 'overspilllaw02.OutbitsBack': WHATEVER THE INPUT: true; the input reads as it did. -/
def outbitsBackSpec : ChangeSpec := { name := "outbitsBack", fn := fun _ => fun
  | [d] => { results := [.lit (.bool true)], args := [d] }
  | _ => none }
def outbitsBackRow : OpenClaim := { program := "ytgapoimickgbbaa", sum := "b4b8f0fbfcacc33d424b8ed13f2275600aed54b5703ec233d7983052a5505e81", func := "overspill/overspilllaw02.OutbitsBack", spec := "outbitsBack", apart := false }
def OutbitsBackSaid : Prop := outbitsBackRow.holds Try.pinned (OpenSpec.ofChange outbitsBackSpec)

/-- ITS FALSE NEIGHBOUR: 'it returns false'. Refute it at one input. -/
def outbitsBackWrong : ChangeSpec := { name := "outbitsBack", fn := fun _ => fun
  | [d] => { results := [.lit (.bool false)], args := [d] }
  | _ => none }
def OutbitsBackWrongFalsely : Prop := outbitsBackRow.holds Try.pinned (OpenSpec.ofChange outbitsBackWrong)

/- THE SECOND FORM. 'bulk': how many values and letters a reading holds, each counted each time it is reached (what is shared counts as often as it is met; a slice's spare places count too). A statement '..UptoSaid' is the law's where the arguments, and the package variables that the reading takes, are together of bulk at most 1048576: NARROWER than '..Said'. Prove '..Said' where nothing that the law and all that it calls make is longer than what came in: it says more and counts as full. Else prove '..UptoSaid'. A law counts once. -/
mutual
def uptoBulk {H : Type} : DataW H → Nat
  | .lit (.string bytes) => bytes.length + 1
  | .lit _ => 1
  | .nil => 1
  | .ptr d => uptoBulk d + 1
  | .slice elems spare => uptoBulkAll elems + uptoBulkAll spare + 1
  | .agg parts => uptoBulkAll parts + 1
  | .iface _ d => uptoBulk d + 1
  | .map entries => uptoBulkEntries entries + 1
  | .held _ => 1
def uptoBulkAll {H : Type} : List (DataW H) → Nat
  | [] => 0
  | d :: r => uptoBulk d + uptoBulkAll r
def uptoBulkEntries {H : Type} : List (Lit × DataW H) → Nat
  | [] => 0
  | x :: r => uptoBulkEntry x + uptoBulkEntries r
def uptoBulkEntry {H : Type} : Lit × DataW H → Nat
  | (.string bytes, d) => bytes.length + uptoBulk d + 1
  | (_, d) => uptoBulk d + 1
 end
def uptoSmall : (H : Type) → List (DataW H) → Bool := fun _ ds => decide (uptoBulkAll ds ≤ 1048576)
def OpenSpec.upto (s : _root_.Go.ChangeSpec) : _root_.Go.OpenSpec := { _root_.Go.OpenSpec.ofChange s with cond := some uptoSmall }

/-- 'overspilllaw02.OutbitsRows', WHERE WHAT IT READS IS OF BULK AT MOST 1048576: true; the input reads as it did. -/
def outbitsRowsUptoRow : OpenClaim := { program := "ytgapoimickgbbaa", sum := "b4b8f0fbfcacc33d424b8ed13f2275600aed54b5703ec233d7983052a5505e81", func := "overspill/overspilllaw02.OutbitsRows", spec := "outbitsRows", apart := false, narrowed := true }
def OutbitsRowsUptoSaid : Prop := outbitsRowsUptoRow.holds Try.pinned (OpenSpec.upto outbitsRowsSpec)

/-- 'overspilllaw02.OutbitsWrites', WHERE WHAT IT READS IS OF BULK AT MOST 1048576: true; the input reads as it did. -/
def outbitsWritesUptoRow : OpenClaim := { program := "ytgapoimickgbbaa", sum := "b4b8f0fbfcacc33d424b8ed13f2275600aed54b5703ec233d7983052a5505e81", func := "overspill/overspilllaw02.OutbitsWrites", spec := "outbitsWrites", apart := false, narrowed := true }
def OutbitsWritesUptoSaid : Prop := outbitsWritesUptoRow.holds Try.pinned (OpenSpec.upto outbitsWritesSpec)

/-- 'overspilllaw02.OutbitsBack', WHERE WHAT IT READS IS OF BULK AT MOST 1048576: true; the input reads as it did. -/
def outbitsBackUptoRow : OpenClaim := { program := "ytgapoimickgbbaa", sum := "b4b8f0fbfcacc33d424b8ed13f2275600aed54b5703ec233d7983052a5505e81", func := "overspill/overspilllaw02.OutbitsBack", spec := "outbitsBack", apart := false, narrowed := true }
def OutbitsBackUptoSaid : Prop := outbitsBackUptoRow.holds Try.pinned (OpenSpec.upto outbitsBackSpec)

end Rows
end Go.Proofs.Ytgapoimickgbbaa
