/- Texts that CellinSame's proof stands on, part 22 of 35. No condition of its own. -/
import Derived.Test.YtbgncbhkjndelaaGreatDoorCellinSameMa
import Derived.Test.YtbgncbhkjndelaaGreatDoorRows
import Derived.WalkKit
import Derived.ProofKit
import Derived.Lib.Hide
namespace Go.Proofs.YtbgncbhkjndelaaGreatDoor
open Go.RowKit
set_option maxHeartbeats 400000 in
theorem wrap_code (n : Int) (w : World) :
  Calls Tryz.prog 29 #[.int .i64 n] w fun e w' => e = .returned (.int .i64 (wrap n)) ∧ w = w' := by
 have ha := and_63 n
 have h1 : 0 ≤ n % 64 := by omega
 have h2 : n % 64 ≤ 63 := by omega
 go_enter Tryz.func29, Tryz.ntmps29
 go_wp2
 all_goals (go_ret; exact ⟨ret_int (by unfold wrap; omega), rfl⟩)
end Go.Proofs.YtbgncbhkjndelaaGreatDoor
