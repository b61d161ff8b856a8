/- Texts that SoundSame's proof stands on, part 24 of 48. No condition of its own. -/
import Derived.Test.YthmmpjecmapajaaDoorSoundSameMa
import Derived.Test.YthmmpjecmapajaaDoorRows
import Derived.WalkKit
import Derived.ProofKit
import Derived.Lib.Hide
namespace Go.Proofs.YthmmpjecmapajaaDoor
open Go.RowKit
set_option maxHeartbeats 400000 in
theorem wrap_code (n : Int) (w : World) :
  Calls Tryd.prog 77 #[.int .i64 n] w fun e w' => e = .returned (.int .i64 (wrap n)) ∧ w = w' := by
 have ha := and_63 n
 have h1 : 0 ≤ n % 64 := by omega
 have h2 : n % 64 ≤ 63 := by omega
 go_enter Tryd.func77, Tryd.ntmps77
 go_wp2
 all_goals (go_ret; exact ⟨ret_int (by unfold wrap; omega), rfl⟩)
end Go.Proofs.YthmmpjecmapajaaDoor
