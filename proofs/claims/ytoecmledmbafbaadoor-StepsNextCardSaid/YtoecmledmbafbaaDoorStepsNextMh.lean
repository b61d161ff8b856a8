/- Texts that StepsNext's proof stands on, part 8 of 10. No condition of its own. -/
import Derived.Test.YtoecmledmbafbaaDoorStepsNextMf
import Derived.Test.YtoecmledmbafbaaDoorStepsNextMg
import Derived.WalkKit
import Derived.Lib.LaidTab
import Derived.MakeChecks
namespace Go.Proofs.YtoecmledmbafbaaDoor
open Go.RowKit Go.Lib
theorem below_ownP {B rb : Nat} {w x y : World} (h : Below B w x) (hz : B ≤ x.heap.size) (hg : x.grownBy y (some rb)) (hrb : B ≤ rb) : Below B w y ∧ B ≤ y.heap.size :=
 ⟨h.grown hg hz (fun k e => by injection e with e; omega), Nat.le_trans hz hg.size⟩
end Go.Proofs.YtoecmledmbafbaaDoor
