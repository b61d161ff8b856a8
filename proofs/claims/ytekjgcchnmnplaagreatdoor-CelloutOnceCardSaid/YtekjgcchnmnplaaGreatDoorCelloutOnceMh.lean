/- Texts that CelloutOnce's proof stands on, part 8 of 45. No condition of its own. -/
import Derived.Test.YtekjgcchnmnplaaGreatDoorCelloutOnceMe
import Derived.Test.YtekjgcchnmnplaaGreatDoorCelloutOnceMg
import Derived.WalkKit
import Derived.Lib.LaidTab
import Derived.MakeChecks
namespace Go.Proofs.YtekjgcchnmnplaaGreatDoor
open Go.RowKit Go.Lib
theorem below_ownP {B rb : Nat} {w x y : World} (h : Below B w x) (hz : B ≤ x.heap.size) (hg : x.grownBy y (some rb)) (hrb : B ≤ rb) : Below B w y ∧ B ≤ y.heap.size :=
 ⟨h.grown hg hz (fun k e => by injection e with e; omega), Nat.le_trans hz hg.size⟩
end Go.Proofs.YtekjgcchnmnplaaGreatDoor
