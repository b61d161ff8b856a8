/- Plain lists alone: the bytes that a row's bits fill, place by place; what one more digit turns; and that packing tells just these bytes. No condition. -/
import Derived.Test.YtologhgoojkpmaaDoorBits
import Derived.Test.YtologhgoojkpmaaDoorNums
namespace Go.Proofs.YtologhgoojkpmaaDoor
open Go.RowKit

/-- What at most eight digits tell, with noughts behind them up to eight. -/
def byteV (c : List UInt8) : Nat := num c * 2 ^ (8 - c.length)
/-- The byte at place i. -/
def byteAt (r : List UInt8) (i : Nat) : Nat := byteV ((r.drop (8 * i)).take 8)

theorem num_snoc (c : List UInt8) (d : UInt8) : num (c ++ [d]) = 2 * num c + (d.toNat - 48) := numFrom_append 0 c [d]
theorem num_noughts (c : List UInt8) (m : Nat) : num (c ++ List.replicate m 48) = num c * 2 ^ m := by
  induction m with
  | zero => simp
  | succ m ih =>
    rw [List.replicate_succ', ← List.append_assoc, num_snoc, ih, Nat.pow_succ, ← Nat.mul_assoc (num c)]
    have : ((48 : UInt8).toNat - 48) = 0 := rfl
    omega
theorem num_full (c : List UInt8) (h : isRow c = true) : num c < 2 ^ c.length := by
  have := num_lt c h c.length (Nat.le_refl _)
  rwa [List.take_of_length_le (Nat.le_refl _)] at this
theorem chunk_len (r : List UInt8) (i : Nat) : ((r.drop (8 * i)).take 8).length = min 8 (r.length - 8 * i) := by simp
theorem chunk_row (r : List UInt8) (i : Nat) (h : isRow r = true) : isRow ((r.drop (8 * i)).take 8) = true := isRow_take _ _ (isRow_drop _ _ h)

theorem byteV_lt (c : List UInt8) (h : isRow c = true) (hl : c.length ≤ 8) : byteV c < 256 := by
  have h1 := num_full c h
  have h2 : num c * 2 ^ (8 - c.length) < 2 ^ c.length * 2 ^ (8 - c.length) := Nat.mul_lt_mul_of_pos_right h1 (Nat.two_pow_pos _)
  rw [← Nat.pow_add, show c.length + (8 - c.length) = 8 by omega] at h2
  exact h2
theorem byteAt_lt (r : List UInt8) (i : Nat) (h : isRow r = true) : byteAt r i < 256 := byteV_lt _ (chunk_row r i h) (by rw [chunk_len]; omega)
theorem byteAt_over (r : List UInt8) (i : Nat) (h : r.length ≤ 8 * i) : byteAt r i = 0 := by
  unfold byteAt byteV
  rw [List.drop_eq_nil_of_le h]
  rfl
theorem byteAt_keep (r e : List UInt8) (i : Nat) (h : 8 * i + 8 ≤ r.length) : byteAt (r ++ e) i = byteAt r i := by
  unfold byteAt
  rw [List.drop_append_of_le_length (by omega), List.take_append_of_le_length (by rw [List.length_drop]; omega)]

/-- One digit more falls into the last chunk, which has room. -/
theorem chunk_add (r : List UInt8) (d : UInt8) : ((r ++ [d]).drop (8 * (r.length / 8))).take 8 = (r.drop (8 * (r.length / 8))).take 8 ++ [d] := by
  rw [List.drop_append_of_le_length (by omega), List.take_of_length_le (l := r.drop _) (by rw [List.length_drop]; omega), List.take_of_length_le (by rw [List.length_append, List.length_drop, List.length_singleton]; omega)]
theorem byteAt_add_same (r : List UInt8) (d : UInt8) : byteAt (r ++ [d]) (r.length / 8) = byteAt r (r.length / 8) + (d.toNat - 48) * 2 ^ (7 - r.length % 8) := by
  unfold byteAt
  rw [chunk_add]
  have hl : ((r.drop (8 * (r.length / 8))).take 8).length = r.length % 8 := by rw [chunk_len]; omega
  generalize (r.drop (8 * (r.length / 8))).take 8 = c at hl
  unfold byteV
  rw [num_snoc, List.length_append, List.length_singleton, hl, show 8 - (r.length % 8 + 1) = 7 - r.length % 8 by omega, show 8 - r.length % 8 = 7 - r.length % 8 + 1 by omega, Nat.pow_succ, Nat.add_mul]
  congr 1
  rw [Nat.mul_comm 2 (num c), Nat.mul_assoc, Nat.mul_comm 2]
theorem byteAt_add_other (r : List UInt8) (d : UInt8) (i : Nat) (h : i ≠ r.length / 8) : byteAt (r ++ [d]) i = byteAt r i := by
  by_cases hi : 8 * i + 8 ≤ r.length
  · exact byteAt_keep r [d] i hi
  · rw [byteAt_over r i (by omega), byteAt_over _ i (by rw [List.length_append, List.length_singleton]; omega)]
theorem byteAt_nought (r : List UInt8) (i : Nat) : byteAt (r ++ [48]) i = byteAt r i := by
  by_cases hi : i = r.length / 8
  · subst hi
    rw [byteAt_add_same, show ((48 : UInt8).toNat - 48) = 0 from rfl]; omega
  · exact byteAt_add_other r 48 i hi
theorem byteAt_one (r : List UInt8) : byteAt (r ++ [49]) (r.length / 8) = byteAt r (r.length / 8) + 2 ^ (7 - r.length % 8) := by
  rw [byteAt_add_same, show ((49 : UInt8).toNat - 48) = 1 from rfl]; omega
/-- Behind the last digit of its chunk the byte has noughts alone. -/
theorem byteAt_low (r : List UInt8) : ∃ A, byteAt r (r.length / 8) = 2 ^ (8 - r.length % 8) * A := by
  refine ⟨num ((r.drop (8 * (r.length / 8))).take 8), ?_⟩
  unfold byteAt byteV
  rw [chunk_len, show min 8 (r.length - 8 * (r.length / 8)) = r.length % 8 by omega, Nat.mul_comm]

/-- What 'or' with that digit's bit makes of the byte. -/
theorem or_bit (x j A : Nat) (hj : j < 8) (hx : x = 2 ^ (8 - j) * A) (h : x < 256) : bits .or .u8 (x : Int) (128 / 2 ^ j) = ((x + 2 ^ (7 - j) : Nat) : Int) := by
  have e1 : (128 : Int) / 2 ^ j = ((2 ^ (7 - j) : Nat) : Int) := by
    have e : (128 : Int) = 2 ^ (7 - j) * 2 ^ j := by rw [← Int.pow_add, show 7 - j + j = 7 by omega]; rfl
    rw [e, Int.mul_ediv_cancel _ (by have : (0 : Int) < 2 ^ j := Int.pow_pos (by decide); omega)]
    simp
  have hb : (2 : Nat) ^ (7 - j) < 2 ^ (8 - j) := Nat.pow_lt_pow_right (by omega) (by omega)
  have hor := Nat.two_pow_add_eq_or_of_lt hb A
  rw [← hx] at hor
  have hp : 2 ^ (7 - j) ≤ 2 ^ 7 := Nat.pow_le_pow_right (by omega) (by omega)
  have hlt : x ||| 2 ^ (7 - j) < 2 ^ 8 := Nat.or_lt_two_pow (by omega) (by omega)
  rw [e1]
  show IntKind.u8.wrap ((BitVec.ofInt 8 (x : Int) ||| BitVec.ofInt 8 ((2 ^ (7 - j) : Nat) : Int)).toNat : Int) = _
  rw [BitVec.ofInt_natCast, BitVec.ofInt_natCast, BitVec.toNat_or, BitVec.toNat_ofNat, BitVec.toNat_ofNat, Nat.mod_eq_of_lt (by omega : x < 2 ^ 8), Nat.mod_eq_of_lt (by omega : 2 ^ (7 - j) < 2 ^ 8), ← hor]
  rw [← hor] at hlt
  have : IntKind.u8.wrap ((x + 2 ^ (7 - j) : Nat) : Int) = ((x + 2 ^ (7 - j) : Nat) : Int) % 256 := rfl
  rw [this]
  omega

/-- Packing tells the bytes place by place. -/
theorem packN_get (p : List UInt8) : ∀ n, packN p n = (List.range n).map fun i => UInt8.ofNat (num ((p.drop (8 * i)).take 8))
  | 0 => rfl
  | n + 1 => by
    rw [packN, packN_get p n, List.range_succ, List.map_append]
    congr 1
    simp only [List.map_cons, List.map_nil]
    rw [show (p.drop (8 * n)).take 8 = (p.take (8 * n + 8)).drop (8 * n) by rw [List.drop_take, show 8 * n + 8 - 8 * n = 8 by omega]]
theorem pad_chunk (r : List UInt8) (i : Nat) (h : 8 * i < r.length) : num (((padL r).drop (8 * i)).take 8) = byteAt r i := by
  unfold byteAt byteV padL
  rw [List.drop_append_of_le_length (by omega), List.take_append, ← num_noughts, chunk_len, List.length_drop]
  congr 2
  rw [List.take_replicate]
  congr 1
  omega
theorem packL_get (r : List UInt8) : packL r = (List.range ((r.length + 7) / 8)).map fun i => UInt8.ofNat (byteAt r i) := by
  unfold packL
  rw [packN_get, padL_length, show (r.length + (8 - r.length % 8) % 8) / 8 = (r.length + 7) / 8 by omega]
  apply List.map_congr_left
  intro i hi
  rw [List.mem_range] at hi
  rw [pad_chunk r i (by omega)]
theorem packL_length (r : List UInt8) : (packL r).length = (r.length + 7) / 8 := by rw [packL_get]; simp
end Go.Proofs.YtologhgoojkpmaaDoor
