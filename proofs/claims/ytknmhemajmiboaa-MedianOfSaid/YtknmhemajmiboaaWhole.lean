/- What the calls of package whole return, and what the document's own answers for them return: for each call one contract, by the plain functions of Nums. Conditions: numbers are what an int holds. -/
import Derived.Test.YtknmhemajmiboaaClip
import Derived.WalkKit
import Derived.ProofKit
import Derived.Lib.Hide
namespace Go.Proofs.Ytknmhemajmiboaa
open Go.RowKit

set_option maxHeartbeats 400000 in
theorem middle_code (a b c : Int) (w : World) :
    Calls Try.prog 9 #[.int .i64 a, .int .i64 b, .int .i64 c] w fun e w' => e = .returned (.int .i64 (middle a b c)) ∧ w = w' := by
  go_enter Try.func9, Try.ntmps9
  go_wp2
  all_goals (go_ret; exact ⟨ret_int (by unfold middle; omega), rfl⟩)

set_option maxHeartbeats 400000 in
theorem middle_page (a b c : Int) (w : World) :
    Calls Try.prog 11 #[.int .i64 a, .int .i64 b, .int .i64 c] w fun e w' => e = .returned (.int .i64 (middle a b c)) ∧ w = w' := by
  go_enter Try.func11, Try.ntmps11
  go_wp2
  all_goals (go_ret; exact ⟨ret_int (by unfold middle; omega), rfl⟩)

theorem tmod_64 (n : Int) : -64 < n.tmod 64 ∧ n.tmod 64 < 64 ∧ ((0 ≤ n.tmod 64 ∧ n.tmod 64 = n % 64) ∨ (n.tmod 64 < 0 ∧ n.tmod 64 = n % 64 - 64)) := by
  rw [Int.tmod_eq_emod]
  split <;> omega

end Go.Proofs.Ytknmhemajmiboaa
