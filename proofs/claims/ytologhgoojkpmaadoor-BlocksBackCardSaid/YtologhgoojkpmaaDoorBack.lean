/- Plain lists alone: a row is its number's row; a row's bytes show the row, filled up with noughts. No condition. -/
import Derived.Test.YtologhgoojkpmaaDoorBytes
namespace Go.Proofs.YtologhgoojkpmaaDoor

/-- A row of eight digits is its number's row again. -/
theorem digit_self (c : UInt8) (h : c = 48 ∨ c = 49) : digit (c.toNat - 48) = c := by
  rcases h with rfl | rfl <;> rfl
theorem isRow_cons (c : UInt8) (l : List UInt8) : isRow (c :: l) = ((c == 48 || c == 49) && isRow l) := rfl
theorem isRow_head {c : UInt8} {l : List UInt8} (h : isRow (c :: l) = true) : (c = 48 ∨ c = 49) ∧ isRow l = true := by
  rw [isRow_cons] at h
  simpa using h
theorem rowOf_low (v x n : Nat) (h : v % 2 ^ n = x % 2 ^ n) : rowOf v n = rowOf x n := by
  induction n generalizing v x with
  | zero => rfl
  | succ n ih =>
    have hp : (2 : Nat) ^ (n + 1) = 2 ^ n * 2 := Nat.pow_succ 2 n
    have h1 : v % 2 ^ n = x % 2 ^ n := by
      have e1 := Nat.mod_mul_right_mod v (2 ^ n) 2
      have e2 := Nat.mod_mul_right_mod x (2 ^ n) 2
      rw [← hp] at e1 e2
      rw [← e1, ← e2, h]
    have h2 : v / 2 ^ n % 2 = x / 2 ^ n % 2 := by
      have e1 := Nat.mod_mul_right_div_self v (2 ^ n) 2
      have e2 := Nat.mod_mul_right_div_self x (2 ^ n) 2
      rw [← hp] at e1 e2
      rw [← e1, ← e2, h]
    show digit (v / 2 ^ n) :: rowOf v n = digit (x / 2 ^ n) :: rowOf x n
    rw [ih v x h1]
    congr 1
    unfold digit
    rw [h2]
theorem numFrom_nil (a : Nat) : numFrom a [] = a := rfl
theorem numFrom_cons (a : Nat) (c : UInt8) (l : List UInt8) : numFrom a (c :: l) = numFrom (2 * a + (c.toNat - 48)) l := numFrom_append a [c] l
section
attribute [local irreducible] numFrom
theorem numFrom_split (a : Nat) (l : List UInt8) : numFrom a l = a * 2 ^ l.length + num l := by
  unfold num
  induction l generalizing a with
  | nil => rw [numFrom_nil, numFrom_nil, List.length_nil]; simp
  | cons c l ih =>
    rw [numFrom_cons, numFrom_cons, ih, ih (2 * 0 + (c.toNat - 48)), List.length_cons, Nat.pow_succ]
    generalize 2 ^ l.length = x
    generalize numFrom 0 l = y
    generalize c.toNat - 48 = z
    rw [Nat.mul_zero, Nat.zero_add, Nat.add_mul, Nat.mul_comm 2 a, Nat.mul_assoc, Nat.mul_comm 2 x, Nat.add_assoc]
theorem num_cons (c : UInt8) (l : List UInt8) : num (c :: l) = (c.toNat - 48) * 2 ^ l.length + num l := by
  unfold num
  rw [numFrom_cons, numFrom_split, Nat.mul_zero, Nat.zero_add]
  rfl
end
theorem row_num : ∀ l : List UInt8, isRow l = true → rowOf (num l) l.length = l
  | [], _ => rfl
  | c :: l, h => by
    obtain ⟨hc, hl⟩ := isRow_head h
    have hn := num_cons c l
    have hlt := num_full l hl
    show digit (num (c :: l) / 2 ^ l.length) :: rowOf (num (c :: l)) l.length = c :: l
    rw [hn, Nat.mul_comm, Nat.mul_add_div (Nat.two_pow_pos _), Nat.div_eq_of_lt hlt, Nat.add_zero, digit_self c hc]
    congr 1
    rw [rowOf_low _ (num l) l.length (by rw [Nat.mul_add_mod])]
    exact row_num l hl
/-- The bytes show the row again, filled up with noughts. -/
theorem show_packN (p : List UInt8) (hp : isRow p = true) : ∀ n, 8 * n ≤ p.length → showL (packN p n) = p.take (8 * n)
  | 0, _ => by simp [packN, showL]
  | n + 1, h => by
    rw [packN, showL_append, show_packN p hp n (by omega), showL_one]
    have hr : isRow ((p.take (8 * n + 8)).drop (8 * n)) = true := isRow_drop _ _ (isRow_take _ _ hp)
    have hl : ((p.take (8 * n + 8)).drop (8 * n)).length = 8 := by rw [List.length_drop, List.length_take]; omega
    have hlt := num_full _ hr
    rw [hl] at hlt
    rw [UInt8.toNat_ofNat', Nat.mod_eq_of_lt hlt]
    have e := row_num _ hr
    rw [hl] at e
    rw [e, show 8 * (n + 1) = 8 * n + 8 by omega]
    have e2 := List.take_append_drop (8 * n) (p.take (8 * n + 8))
    rw [List.take_take, show min (8 * n) (8 * n + 8) = 8 * n by omega] at e2
    exact e2
theorem show_pack (l : List UInt8) (h : isRow l = true) : showL (packL l) = padL l := by
  unfold packL
  rw [show_packN _ (padL_row l h) _ (by omega), List.take_of_length_le]
  have := padL_length l
  omega

end Go.Proofs.YtologhgoojkpmaaDoor
