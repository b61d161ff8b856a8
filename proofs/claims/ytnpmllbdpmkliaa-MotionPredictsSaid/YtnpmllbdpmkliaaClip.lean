/- What Clip of package whole returns, and the document's own answer for it. Conditions: numbers are what an int holds. -/
import Derived.Test.YtnpmllbdpmkliaaRows
import Derived.Test.YtnpmllbdpmkliaaNums
import Derived.WalkKit
import Derived.ProofKit
import Derived.Lib.Hide
namespace Go.Proofs.Ytnpmllbdpmkliaa
open Go.RowKit

set_option maxHeartbeats 400000 in
theorem clip_code (n lo hi : Int) (w : World) :
    Calls Try.prog 19 #[.int .i64 n, .int .i64 lo, .int .i64 hi] w fun e w' => e = .returned (.int .i64 (clip n lo hi)) ∧ w = w' := by
  go_enter Try.func19, Try.ntmps19
  go_wp2
  all_goals (go_ret; exact ⟨ret_int (by unfold clip; omega), rfl⟩)

set_option maxHeartbeats 400000 in
theorem clip_page (n lo hi : Int) (w : World) :
    Calls Try.prog 20 #[.int .i64 n, .int .i64 lo, .int .i64 hi] w fun e w' => e = .returned (.int .i64 (clip n lo hi)) ∧ w = w' := by
  by_cases h1 : hi < lo
  · go_enter Try.func20, Try.ntmps20
    go_wp2
    all_goals (go_ret; exact ⟨ret_int (by unfold clip; omega), rfl⟩)
  · by_cases h2 : n < lo
    · go_enter Try.func20, Try.ntmps20
      go_wp2
      all_goals (go_ret; exact ⟨ret_int (by unfold clip; omega), rfl⟩)
    · go_enter Try.func20, Try.ntmps20
      go_wp2
      all_goals (go_ret; exact ⟨ret_int (by unfold clip; omega), rfl⟩)
end Go.Proofs.Ytnpmllbdpmkliaa
