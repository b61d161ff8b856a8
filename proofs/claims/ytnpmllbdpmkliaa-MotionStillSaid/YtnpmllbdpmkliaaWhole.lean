/- What the calls of package whole return, and what the document's own answers for them return: for each call one contract, by the plain functions of Nums. Conditions: numbers are what an int holds. -/
import Derived.Test.YtnpmllbdpmkliaaClip
import Derived.WalkKit
import Derived.ProofKit
import Derived.Lib.Hide
namespace Go.Proofs.Ytnpmllbdpmkliaa
open Go.RowKit

theorem tmod_64 (n : Int) : -64 < n.tmod 64 ∧ n.tmod 64 < 64 ∧ ((0 ≤ n.tmod 64 ∧ n.tmod 64 = n % 64) ∨ (n.tmod 64 < 0 ∧ n.tmod 64 = n % 64 - 64)) := by
  rw [Int.tmod_eq_emod]
  split <;> omega

end Go.Proofs.Ytnpmllbdpmkliaa
