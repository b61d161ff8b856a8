/- What Clip of package whole returns, and the document's own answer for it. Conditions: numbers are what an int holds. -/
import Derived.Test.YtegppidfmjcnoaaDoorRows
import Derived.Test.YtegppidfmjcnoaaDoorNums
import Derived.WalkKit
import Derived.ProofKit
import Derived.Lib.Hide
namespace Go.Proofs.YtegppidfmjcnoaaDoor
open Go.RowKit

set_option maxHeartbeats 400000 in
theorem clip_code (n lo hi : Int) (w : World) :
    Calls Tryd.prog 21 #[.int .i64 n, .int .i64 lo, .int .i64 hi] w fun e w' => e = .returned (.int .i64 (clip n lo hi)) ∧ w = w' := by
  go_enter Tryd.func21, Tryd.ntmps21
  go_wp2
  all_goals (go_ret; exact ⟨ret_int (by unfold clip; omega), rfl⟩)

set_option maxHeartbeats 400000 in
theorem clip_page (n lo hi : Int) (w : World) :
    Calls Tryd.prog 18 #[.int .i64 n, .int .i64 lo, .int .i64 hi] w fun e w' => e = .returned (.int .i64 (clip n lo hi)) ∧ w = w' := by
  by_cases h1 : hi < lo
  · go_enter Tryd.func18, Tryd.ntmps18
    go_wp2
    all_goals (go_ret; exact ⟨ret_int (by unfold clip; omega), rfl⟩)
  · by_cases h2 : n < lo
    · go_enter Tryd.func18, Tryd.ntmps18
      go_wp2
      all_goals (go_ret; exact ⟨ret_int (by unfold clip; omega), rfl⟩)
    · go_enter Tryd.func18, Tryd.ntmps18
      go_wp2
      all_goals (go_ret; exact ⟨ret_int (by unfold clip; omega), rfl⟩)
end Go.Proofs.YtegppidfmjcnoaaDoor
