/- Texts that CellinTakes's proof stands on, part 21 of 38. No condition of its own. -/
import Derived.Test.YtbgncbhkjndelaaGreatDoorCellinTakesMf
import Derived.Test.YtbgncbhkjndelaaGreatDoorCellinTakesMt
import Derived.WalkKit
import Derived.Lib.LaidTab
import Derived.MakeChecks
namespace Go.Proofs.YtbgncbhkjndelaaGreatDoor
open Go.RowKit Go.Lib
theorem below_ownP {B rb : Nat} {w x y : World} (h : Below B w x) (hz : B ≤ x.heap.size) (hg : x.grownBy y (some rb)) (hrb : B ≤ rb) : Below B w y ∧ B ≤ y.heap.size :=
 ⟨h.grown hg hz (fun k e => by injection e with e; omega), Nat.le_trans hz hg.size⟩
end Go.Proofs.YtbgncbhkjndelaaGreatDoor
