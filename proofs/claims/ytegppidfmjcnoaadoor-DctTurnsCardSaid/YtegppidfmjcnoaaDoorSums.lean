/- Sums of the first numbers of a row, one in another, exchanged, bounded. No condition. -/
import Derived.Test.YtegppidfmjcnoaaDoorNums
namespace Go.Proofs.YtegppidfmjcnoaaDoor

/-- The sum of the first n. -/
def sumN : Nat → (Nat → Int) → Int
  | 0, _ => 0
  | n + 1, g => sumN n g + g n
theorem sumN_congr {g h : Nat → Int} : ∀ n, (∀ i, i < n → g i = h i) → sumN n g = sumN n h
  | 0, _ => rfl
  | n + 1, e => by
    unfold sumN
    rw [sumN_congr n fun i hi => e i (by omega), e n (by omega)]
theorem sumN_plus (a : Nat) (g : Nat → Int) : ∀ b, sumN (a + b) g = sumN a g + sumN b fun i => g (a + i)
  | 0 => by simp [sumN]
  | b + 1 => by
    show sumN (a + b) g + g (a + b) = sumN a g + (sumN b (fun i => g (a + i)) + g (a + b))
    rw [sumN_plus a g b, Int.add_assoc]
/-- A sum of rows. -/
theorem sumN_rows (m : Nat) (g : Nat → Int) : ∀ k, sumN (m * k) g = sumN k fun y => sumN m fun x => g (m * y + x)
  | 0 => by simp [sumN]
  | k + 1 => by
    rw [Nat.mul_succ, sumN_plus, sumN_rows m g k]
    rfl
theorem sumN_add (g h : Nat → Int) : ∀ n, sumN n (fun i => g i + h i) = sumN n g + sumN n h
  | 0 => rfl
  | n + 1 => by
    show sumN n (fun i => g i + h i) + (g n + h n) = sumN n g + g n + (sumN n h + h n)
    rw [sumN_add g h n]
    omega
theorem sumN_mul (c : Int) (g : Nat → Int) : ∀ n, sumN n (fun i => c * g i) = c * sumN n g
  | 0 => (Int.mul_zero c).symm
  | n + 1 => by
    show sumN n (fun i => c * g i) + c * g n = c * (sumN n g + g n)
    rw [sumN_mul c g n, Int.mul_add]
theorem sumN_nought : ∀ n, sumN n (fun _ => 0) = 0
  | 0 => rfl
  | n + 1 => by
    show sumN n (fun _ => 0) + 0 = 0
    rw [sumN_nought n]
    rfl
/-- One in another, exchanged. -/
theorem sumN_turn (g : Nat → Nat → Int) (b : Nat) : ∀ a, sumN a (fun y => sumN b fun x => g y x) = sumN b fun x => sumN a fun y => g y x
  | 0 => (sumN_nought b).symm
  | a + 1 => by
    show sumN a (fun y => sumN b fun x => g y x) + sumN b (fun x => g a x) = sumN b fun x => sumN a (fun y => g y x) + g a x
    rw [sumN_turn g b a, sumN_add]
theorem sumN_most {M : Int} {g : Nat → Int} : ∀ n, (∀ i, i < n → -M ≤ g i ∧ g i ≤ M) → -(n * M) ≤ sumN n g ∧ sumN n g ≤ n * M
  | 0, _ => by simp [sumN]
  | n + 1, h => by
    have h1 := sumN_most n fun i hi => h i (by omega)
    have h2 := h n (by omega)
    have e : ((n + 1 : Nat) : Int) * M = n * M + M := by rw [Int.natCast_add, Int.add_mul]; simp
    rw [e]
    unfold sumN
    omega
theorem mul_within {a b A M : Int} (h1 : -A ≤ a) (h2 : a ≤ A) (h3 : -M ≤ b) (h4 : b ≤ M) : -(A * M) ≤ a * b ∧ a * b ≤ A * M := by
  have hA : 0 ≤ A := by omega
  have hM : 0 ≤ M := by omega
  have e : (a * b).natAbs ≤ (A * M).natAbs := by
    rw [Int.natAbs_mul, Int.natAbs_mul]
    exact Nat.mul_le_mul (by omega) (by omega)
  have p := Int.mul_nonneg hA hM
  omega
end Go.Proofs.YtegppidfmjcnoaaDoor
