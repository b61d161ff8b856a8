/- Texts that CelloutPuts's proof stands on, part 10 of 37. No condition of its own. -/
import Derived.Test.YtekjgcchnmnplaaDoorCelloutPutsMa
import Derived.Test.YtekjgcchnmnplaaDoorRows
import Derived.WalkKit
import Derived.ProofKit
import Derived.Lib.Hide
namespace Go.Proofs.YtekjgcchnmnplaaDoor
open Go.RowKit
set_option maxHeartbeats 400000 in
theorem wrap_code (n : Int) (w : World) :
  Calls Tryd.prog 65 #[.int .i64 n] w fun e w' => e = .returned (.int .i64 (wrap n)) ∧ w = w' := by
 have ha := and_63 n
 have h1 : 0 ≤ n % 64 := by omega
 have h2 : n % 64 ≤ 63 := by omega
 go_enter Tryd.func65, Tryd.ntmps65
 go_wp2
 all_goals (go_ret; exact ⟨ret_int (by unfold wrap; omega), rfl⟩)
theorem tmod_64 (n : Int) : -64 < n.tmod 64 ∧ n.tmod 64 < 64 ∧ ((0 ≤ n.tmod 64 ∧ n.tmod 64 = n % 64) ∨ (n.tmod 64 < 0 ∧ n.tmod 64 = n % 64 - 64)) := by
 rw [Int.tmod_eq_emod]
 split <;> omega
set_option maxHeartbeats 400000 in
theorem wrap_page (n : Int) (w : World) :
  Calls Tryd.prog 32 #[.int .i64 n] w fun e w' => e = .returned (.int .i64 (wrap n)) ∧ w = w' := by
 obtain ⟨h1, h2, h3⟩ := tmod_64 n
 have H3 := Lib.hid h3
 clear h3
 go_enter Tryd.func32, Tryd.ntmps32
 go_wp2
 all_goals (go_ret; exact ⟨ret_int (by have := H3.out; unfold wrap; omega), rfl⟩)
end Go.Proofs.YtekjgcchnmnplaaDoor
