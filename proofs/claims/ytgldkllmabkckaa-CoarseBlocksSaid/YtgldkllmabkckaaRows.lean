/-
  No cell of these rows narrows 'for every input' (looked for: loops, veiled, ifaces, maps, wideKeys, modest, calm, conditions, laid).
  DERIVED. THE GIVEN ROWS OF THIS SEAT. 3 by the template 'for every input the law returns true; each argument reads behind the call as it read before'; 0 by the template 'total and deterministic' (their statements: YtgldkllmabkckaaTotals.lean).
  GIVEN WITH THE SEED: the statements are not yours to turn. If you find one false, say at which input.
  Laid BY PROGRAM, IN A SANDBOX (cutbox-rows.mjs): the forced cells as the released guide's own fill.sh prints them over the translation 1c4110fa277383d0… (all of the seat's roots in one cut). By AI agents, Wed Nov 11 2026. No macro, syntax, notation, axiom, sorry.
-/
import Derived.Test.YtgldkllmabkckaaChecked
import GoSem.Claim
import GoSem.ClaimJoined
import GoSem.ClaimMapViews
import Derived.JoinedTies
import Derived.KernelRfl
namespace Go.Proofs.Ytgldkllmabkckaa
/- THE CELL 'sum', in the pinned program and in every row, IS THE sha256 OF THE DUMP (.gsa) THAT YtgldkllmabkckaaProg.lean LOADS. Nothing in Lean hashes anything: it is a label: what it is worth is what the hold of that sum in a sandbox is worth. -/
noncomputable def Try.pinned : Pinned := { name := "ytgldkllmabkckaa", sum := "1c4110fa277383d0d739390ee03cd799f80c161319c56a63e7f69ff2059adaad", checked := Try.checked }
namespace Rows
def none {H : Type} : Left H := { results := [], args := [] }

/-- 'overspilllaw13.CoarseLevels': WHATEVER THE INPUT: true; the input reads as it did. -/
def coarseLevelsSpec : ChangeSpec := { name := "coarseLevels", fn := fun _ => fun
  | [d1, d2] => { results := [.lit (.bool true)], args := [d1, d2] }
  | _ => none }
def coarseLevelsRow : OpenClaim := { program := "ytgldkllmabkckaa", sum := "1c4110fa277383d0d739390ee03cd799f80c161319c56a63e7f69ff2059adaad", func := "overspill/overspilllaw13.CoarseLevels", spec := "coarseLevels", apart := false }
def CoarseLevelsSaid : Prop := coarseLevelsRow.holds Try.pinned (OpenSpec.ofChange coarseLevelsSpec)

/-- ITS FALSE NEIGHBOUR: 'it returns false'. Refute it at one input. -/
def coarseLevelsWrong : ChangeSpec := { name := "coarseLevels", fn := fun _ => fun
  | [d1, d2] => { results := [.lit (.bool false)], args := [d1, d2] }
  | _ => none }
def CoarseLevelsWrongFalsely : Prop := coarseLevelsRow.holds Try.pinned (OpenSpec.ofChange coarseLevelsWrong)

/-- 'overspilllaw13.CoarseBlocks': WHATEVER THE INPUT: true; the input reads as it did. -/
def coarseBlocksSpec : ChangeSpec := { name := "coarseBlocks", fn := fun _ => fun
  | [d1, d2, d3] => { results := [.lit (.bool true)], args := [d1, d2, d3] }
  | _ => none }
def coarseBlocksRow : OpenClaim := { program := "ytgldkllmabkckaa", sum := "1c4110fa277383d0d739390ee03cd799f80c161319c56a63e7f69ff2059adaad", func := "overspill/overspilllaw13.CoarseBlocks", spec := "coarseBlocks", unfollowed := true, recurses := true, apart := false }
def CoarseBlocksSaid : Prop := coarseBlocksRow.holds Try.pinned (OpenSpec.ofChange coarseBlocksSpec)

/-- ITS FALSE NEIGHBOUR: 'it returns false'. Refute it at one input. -/
def coarseBlocksWrong : ChangeSpec := { name := "coarseBlocks", fn := fun _ => fun
  | [d1, d2, d3] => { results := [.lit (.bool false)], args := [d1, d2, d3] }
  | _ => none }
def CoarseBlocksWrongFalsely : Prop := coarseBlocksRow.holds Try.pinned (OpenSpec.ofChange coarseBlocksWrong)

/-- 'overspilllaw13.CoarseBack': WHATEVER THE INPUT: true; the input reads as it did. -/
def coarseBackSpec : ChangeSpec := { name := "coarseBack", fn := fun _ => fun
  | [d1, d2, d3] => { results := [.lit (.bool true)], args := [d1, d2, d3] }
  | _ => none }
def coarseBackRow : OpenClaim := { program := "ytgldkllmabkckaa", sum := "1c4110fa277383d0d739390ee03cd799f80c161319c56a63e7f69ff2059adaad", func := "overspill/overspilllaw13.CoarseBack", spec := "coarseBack", apart := false }
def CoarseBackSaid : Prop := coarseBackRow.holds Try.pinned (OpenSpec.ofChange coarseBackSpec)

/-- ITS FALSE NEIGHBOUR: 'it returns false'. Refute it at one input. -/
def coarseBackWrong : ChangeSpec := { name := "coarseBack", fn := fun _ => fun
  | [d1, d2, d3] => { results := [.lit (.bool false)], args := [d1, d2, d3] }
  | _ => none }
def CoarseBackWrongFalsely : Prop := coarseBackRow.holds Try.pinned (OpenSpec.ofChange coarseBackWrong)

/- THE SECOND FORM. 'bulk': how many values and letters a reading holds, each counted each time it is reached (what is shared counts as often as it is met; a slice's spare places count too). A statement '..UptoSaid' is the law's where the arguments, and the package variables that the reading takes, are together of bulk at most 1048576: NARROWER than '..Said'. Prove '..Said' where nothing that the law and all that it calls make is longer than what came in: it says more and counts as full. Else prove '..UptoSaid'. A law counts once. -/
mutual
def uptoBulk {H : Type} : DataW H → Nat
  | .lit (.string bytes) => bytes.length + 1
  | .lit _ => 1
  | .nil => 1
  | .ptr d => uptoBulk d + 1
  | .slice elems spare => uptoBulkAll elems + uptoBulkAll spare + 1
  | .agg parts => uptoBulkAll parts + 1
  | .iface _ d => uptoBulk d + 1
  | .map entries => uptoBulkEntries entries + 1
  | .held _ => 1
def uptoBulkAll {H : Type} : List (DataW H) → Nat
  | [] => 0
  | d :: r => uptoBulk d + uptoBulkAll r
def uptoBulkEntries {H : Type} : List (Lit × DataW H) → Nat
  | [] => 0
  | x :: r => uptoBulkEntry x + uptoBulkEntries r
def uptoBulkEntry {H : Type} : Lit × DataW H → Nat
  | (.string bytes, d) => bytes.length + uptoBulk d + 1
  | (_, d) => uptoBulk d + 1
 end
def uptoSmall : (H : Type) → List (DataW H) → Bool := fun _ ds => decide (uptoBulkAll ds ≤ 1048576)
def OpenSpec.upto (s : _root_.Go.ChangeSpec) : _root_.Go.OpenSpec := { _root_.Go.OpenSpec.ofChange s with cond := some uptoSmall }

/-- 'overspilllaw13.CoarseLevels', WHERE WHAT IT READS IS OF BULK AT MOST 1048576: true; the input reads as it did. -/
def coarseLevelsUptoRow : OpenClaim := { program := "ytgldkllmabkckaa", sum := "1c4110fa277383d0d739390ee03cd799f80c161319c56a63e7f69ff2059adaad", func := "overspill/overspilllaw13.CoarseLevels", spec := "coarseLevels", apart := false, narrowed := true }
def CoarseLevelsUptoSaid : Prop := coarseLevelsUptoRow.holds Try.pinned (OpenSpec.upto coarseLevelsSpec)

/-- 'overspilllaw13.CoarseBlocks', WHERE WHAT IT READS IS OF BULK AT MOST 1048576: true; the input reads as it did. -/
def coarseBlocksUptoRow : OpenClaim := { program := "ytgldkllmabkckaa", sum := "1c4110fa277383d0d739390ee03cd799f80c161319c56a63e7f69ff2059adaad", func := "overspill/overspilllaw13.CoarseBlocks", spec := "coarseBlocks", unfollowed := true, recurses := true, apart := false, narrowed := true }
def CoarseBlocksUptoSaid : Prop := coarseBlocksUptoRow.holds Try.pinned (OpenSpec.upto coarseBlocksSpec)

/-- 'overspilllaw13.CoarseBack', WHERE WHAT IT READS IS OF BULK AT MOST 1048576: true; the input reads as it did. -/
def coarseBackUptoRow : OpenClaim := { program := "ytgldkllmabkckaa", sum := "1c4110fa277383d0d739390ee03cd799f80c161319c56a63e7f69ff2059adaad", func := "overspill/overspilllaw13.CoarseBack", spec := "coarseBack", apart := false, narrowed := true }
def CoarseBackUptoSaid : Prop := coarseBackUptoRow.holds Try.pinned (OpenSpec.upto coarseBackSpec)

end Rows
end Go.Proofs.Ytgldkllmabkckaa
