/- Plain lists alone: the number that some bits of a text tell, by the bytes that hold them. No condition. -/
import Derived.Test.YtologhgoojkpmaaDoorBack
namespace Go.Proofs.YtologhgoojkpmaaDoor
open Go.RowKit

/-- How many noughts fill up the last byte. -/
def gap (n : Nat) : Nat := (8 - n % 8) % 8
/-- The number that bytes tell behind a number, the first one highest. -/
def bfrom (a : Nat) : List UInt8 → Nat
  | [] => a
  | c :: l => bfrom (256 * a + c.toNat) l
def bnum (l : List UInt8) : Nat := bfrom 0 l
theorem bfrom_append (a : Nat) (l m : List UInt8) : bfrom a (l ++ m) = bfrom (bfrom a l) m := by
  induction l generalizing a with
  | nil => rfl
  | cons c l ih => exact ih _
theorem bnum_take (l : List UInt8) (j : Nat) (h : j < l.length) : bnum (l.take (j + 1)) = 256 * bnum (l.take j) + l[j].toNat := by
  rw [List.take_succ_eq_append_getElem h]
  exact bfrom_append 0 _ _
theorem bfrom_lt (l : List UInt8) (a : Nat) : bfrom a l < (a + 1) * 256 ^ l.length := by
  induction l generalizing a with
  | nil => simp [bfrom]
  | cons c l ih =>
    have h1 := ih (256 * a + c.toNat)
    have h2 := c.toNat_lt
    have h3 : (256 * a + c.toNat + 1) * 256 ^ l.length ≤ ((a + 1) * 256) * 256 ^ l.length := Nat.mul_le_mul_right _ (by omega)
    rw [List.length_cons, Nat.pow_succ, Nat.mul_comm (256 ^ l.length), ← Nat.mul_assoc]
    exact Nat.lt_of_lt_of_le h1 h3
theorem bnum_lt (l : List UInt8) (k : Nat) (h : l.length ≤ k) : bnum l < 256 ^ k := by
  have h1 := bfrom_lt l 0
  have h2 : 256 ^ l.length ≤ 256 ^ k := Nat.pow_le_pow_right (by omega) h
  unfold bnum
  omega

section
attribute [local irreducible] numFrom
theorem num_append (l m : List UInt8) : num (l ++ m) = num l * 2 ^ m.length + num m := by
  unfold num
  rw [numFrom_append, numFrom_split]
  rfl
theorem num_rowOf (v n : Nat) : num (rowOf v n) = v % 2 ^ n := by
  induction n with
  | zero => simp [rowOf, num, numFrom_nil, Nat.mod_one]
  | succ n ih =>
    rw [rowOf, num_cons, ih, rowOf_length, Nat.mod_pow_succ]
    have : (digit (v / 2 ^ n)).toNat - 48 = v / 2 ^ n % 2 := by
      generalize v / 2 ^ n = y
      unfold digit
      rcases (by omega : y % 2 = 0 ∨ y % 2 = 1) with h | h
      · rw [if_pos h, h]; rfl
      · rw [if_neg (by omega), h]; rfl
    rw [this, Nat.mul_comm, Nat.add_comm]
theorem showL_cons (c : UInt8) (l : List UInt8) : showL (c :: l) = rowOf c.toNat 8 ++ showL l := by simp [showL]
theorem show_from (l : List UInt8) (a : Nat) : numFrom a (showL l) = bfrom a l := by
  induction l generalizing a with
  | nil => rw [show showL [] = [] from rfl, numFrom_nil]; rfl
  | cons c l ih =>
    rw [showL_cons, numFrom_append, ih, numFrom_split, rowOf_length, num_rowOf, Nat.mod_eq_of_lt (by have := c.toNat_lt; omega), bfrom, Nat.mul_comm]
end
theorem show_num (l : List UInt8) : num (showL l) = bnum l := show_from l 0
theorem showL_row (l : List UInt8) : isRow (showL l) = true := by
  induction l with
  | nil => rfl
  | cons c l ih => rw [showL_cons, isRow_append, rowOf_row, ih]; rfl
theorem num_mid (A X C : List UInt8) (hx : isRow X = true) (hc : isRow C = true) : num (A ++ X ++ C) / 2 ^ C.length % 2 ^ X.length = num X := by
  rw [num_append, num_append, Nat.add_comm, Nat.add_mul_div_right _ _ (Nat.two_pow_pos _), Nat.div_eq_of_lt (num_full C hc), Nat.zero_add, Nat.add_comm, Nat.add_mul_mod_self_right, Nat.mod_eq_of_lt (num_full X hx)]
theorem showL_part (l : List UInt8) (f k : Nat) (h : f + k ≤ l.length) : showL ((l.drop f).take k) = ((showL l).drop (8 * f)).take (8 * k) := by
  have e : l = l.take f ++ ((l.drop f).take k ++ (l.drop f).drop k) := by rw [List.take_append_drop, List.take_append_drop]
  have e2 : showL l = showL (l.take f) ++ (showL ((l.drop f).take k) ++ showL ((l.drop f).drop k)) := by rw [← showL_append, ← showL_append, ← e]
  rw [e2, List.drop_left' (by rw [showL_length, List.length_take, Nat.min_eq_left (by omega)]), List.take_left' (by rw [showL_length, List.length_take, List.length_drop, Nat.min_eq_left (by omega)])]

/-- The number that n bits of a text tell, from bit p on. -/
def tell (l : List UInt8) (p n : Nat) : Nat := num (((showL l).drop p).take n)
theorem tell_bytes (l : List UInt8) (f k p n : Nat) (h1 : 8 * f ≤ p) (h2 : p + n ≤ 8 * (f + k)) (h3 : f + k ≤ l.length) : bnum ((l.drop f).take k) / 2 ^ (8 * (f + k) - p - n) % 2 ^ n = tell l p n := by
  have hr := showL_row l
  have hl := showL_length l
  rw [← show_num, showL_part l f k h3]
  unfold tell
  generalize showL l = S at hr hl
  obtain ⟨T, hT⟩ : ∃ T, (S.drop (8 * f)).take (8 * k) = T := ⟨_, rfl⟩
  have hTr : isRow T = true := by rw [← hT]; exact isRow_take _ _ (isRow_drop _ _ hr)
  have hTl : T.length = 8 * k := by rw [← hT, List.length_take, List.length_drop]; omega
  have hX : (T.drop (p - 8 * f)).take n = (S.drop p).take n := by
    rw [← hT, List.drop_take, List.take_take, List.drop_drop, show min n (8 * k - (p - 8 * f)) = n by omega, show 8 * f + (p - 8 * f) = p by omega]
  have hXl : ((T.drop (p - 8 * f)).take n).length = n := by rw [List.length_take, List.length_drop]; omega
  have hCl : ((T.drop (p - 8 * f)).drop n).length = 8 * (f + k) - p - n := by rw [List.length_drop, List.length_drop]; omega
  have e : T = T.take (p - 8 * f) ++ (T.drop (p - 8 * f)).take n ++ (T.drop (p - 8 * f)).drop n := by rw [List.append_assoc, List.take_append_drop, List.take_append_drop]
  have m := num_mid (T.take (p - 8 * f)) ((T.drop (p - 8 * f)).take n) ((T.drop (p - 8 * f)).drop n) (isRow_take _ _ (isRow_drop _ _ hTr)) (isRow_drop _ _ (isRow_drop _ _ hTr))
  rw [← e, hXl, hCl, hX] at m
  rw [hT]
  exact m
theorem tell_lt (l : List UInt8) (p n : Nat) : tell l p n < 2 ^ n := by
  have h := num_full _ (isRow_take _ n (isRow_drop _ p (showL_row l)))
  have h2 : 2 ^ (((showL l).drop p).take n).length ≤ 2 ^ n := Nat.pow_le_pow_right (by omega) (by rw [List.length_take]; omega)
  exact Nat.lt_of_lt_of_le h h2
theorem tell_zero (l : List UInt8) (p : Nat) : tell l p 0 = 0 := by
  have := tell_lt l p 0
  simpa using this

/-- What a reader of a text, at a bit, tells when it is asked for n bits: the number, and what is wrong. -/
def ask (l : List UInt8) (p : Nat) (n : Int) : Int × Int :=
  if n < 0 ∨ 32 < n then (0, 1) else if 8 * (l.length : Int) - p < n then (0, 2) else (((tell l p n.toNat : Nat) : Int), 0)
theorem ask_arg {l : List UInt8} {p : Nat} {n : Int} (h : n < 0 ∨ 32 < n) : ask l p n = (0, 1) := if_pos h
theorem ask_short {l : List UInt8} {p : Nat} {n : Int} (h : 0 ≤ n ∧ n ≤ 32) (h2 : 8 * (l.length : Int) - p < n) : ask l p n = (0, 2) := by
  unfold ask; rw [if_neg (by omega), if_pos h2]
theorem ask_ok {l : List UInt8} {p : Nat} {n : Int} (h : 0 ≤ n ∧ n ≤ 32) (h2 : n ≤ 8 * (l.length : Int) - p) : ask l p n = (((tell l p n.toNat : Nat) : Int), 0) := by
  unfold ask; rw [if_neg (by omega), if_neg (by omega)]
/-- What it tells when it is asked to fill. -/
def fillOf (l : List UInt8) (p : Nat) : Int × Int := if tell l p (gap p) = 0 then (((gap p : Nat) : Int), 0) else (0, 5)

/-- Where the reader stands behind that. -/
def askTo (l : List UInt8) (p : Nat) (n : Int) : Nat := if (ask l p n).2 = 0 then p + n.toNat else p
/-- Where the reader stands behind a fill. -/
def fillTo (l : List UInt8) (p : Nat) : Nat := if tell l p (gap p) = 0 then p + gap p else p
/-- A row's bytes tell what the row tells. -/
theorem tell_pack (r : List UInt8) (hr : isRow r = true) (p n : Nat) (h : p + n ≤ r.length) : tell (packL r) p n = num ((r.drop p).take n) := by
  unfold tell
  rw [show_pack r hr]
  unfold padL
  rw [List.drop_append_of_le_length (by omega), List.take_append_of_le_length (by rw [List.length_drop]; omega)]
theorem num_zeros (k : Nat) : num (List.replicate k 48) = 0 := by
  have := num_noughts [] k
  rw [List.nil_append] at this
  rw [this, show num [] = 0 from rfl, Nat.zero_mul]
/-- Behind a row's last digit there are noughts up to the byte's end. -/
theorem tell_pack_end (r : List UInt8) (hr : isRow r = true) : tell (packL r) r.length (gap r.length) = 0 := by
  unfold tell gap
  rw [show_pack r hr]
  unfold padL
  rw [List.drop_left' rfl, List.take_of_length_le (by rw [List.length_replicate]; exact Nat.le_refl _), num_zeros]
theorem packL_most (r : List UInt8) : r.length ≤ 8 * (packL r).length := by rw [packL_length]; omega
theorem packL_end (r : List UInt8) : r.length + gap r.length = 8 * (packL r).length := by rw [packL_length]; unfold gap; omega
end Go.Proofs.YtologhgoojkpmaaDoor
