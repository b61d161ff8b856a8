/- Texts that StepsRows's proof stands on, part 9 of 10. No condition of its own. -/
import Derived.Test.YtoecmledmbafbaaDoorStepsRowsMa
import Derived.Test.YtoecmledmbafbaaDoorRows
import Derived.WalkKit
import Derived.ProofKit
import Derived.Lib.Hide
namespace Go.Proofs.YtoecmledmbafbaaDoor
open Go.RowKit
set_option maxHeartbeats 400000 in
theorem clip_code (n lo hi : Int) (w : World) :
  Calls Tryd.prog 23 #[.int .i64 n, .int .i64 lo, .int .i64 hi] w fun e w' => e = .returned (.int .i64 (clip n lo hi)) ∧ w = w' := by
 go_enter Tryd.func23, Tryd.ntmps23
 go_wp2
 all_goals (go_ret; exact ⟨ret_int (by unfold clip; omega), rfl⟩)
end Go.Proofs.YtoecmledmbafbaaDoor
