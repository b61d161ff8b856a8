/- Plain numbers alone: what the calls of package whole come to, as functions on whole numbers without bounds, and the facts about them that the walks use. No condition. -/
import Derived.OpenShut
import Derived.IntWalk
namespace Go.Proofs.Ytknmhemajmiboaa
open Go.RowKit

theorem ret_int {k : IntKind} {a b : Int} (h : a = b) : Ending.returned (.int k a) = .returned (.int k b) := by rw [h]
theorem ret_bool {a b : Bool} (h : a = b) : Ending.returned (.bool a) = .returned (.bool b) := by rw [h]

theorem wrapN {n : Int} (h : -9223372036854775808 ≤ n ∧ n ≤ 9223372036854775807) : IntKind.i64.wrap n = n := by
  rw [IntKind.wrap_i64]
  omega
theorem wrapNat {n : Nat} (h : n ≤ 9223372036854775807) : IntKind.i64.wrap (n : Int) = (n : Int) := wrapN (by omega)

/-- A number brought to bounds; the lower bound wins. -/
def clip (n lo hi : Int) : Int := max lo (min n hi)
theorem clip_lo (n lo hi : Int) : lo ≤ clip n lo hi := by unfold clip; omega
theorem clip_hi (n lo hi : Int) (h : lo ≤ hi) : clip n lo hi ≤ hi := by unfold clip; omega
theorem clip_of (n lo hi : Int) (h1 : lo ≤ n) (h2 : n ≤ hi) : clip n lo hi = n := by unfold clip; omega

/-- The one in the middle. -/
def middle (a b c : Int) : Int := max (min a b) (min (max a b) c)
theorem middle_turn (a b c : Int) : middle c a b = middle a b c := by unfold middle; omega

/-- From -32 to 31, away by a multiple of 64. -/
def wrap (n : Int) : Int := (n + 32) % 64 - 32
theorem wrap_lo (n : Int) : -32 ≤ wrap n := by unfold wrap; omega
theorem wrap_hi (n : Int) : wrap n ≤ 31 := by unfold wrap; omega
theorem wrap_of (n : Int) (h1 : -32 ≤ n) (h2 : n ≤ 31) : wrap n = n := by unfold wrap; omega
theorem wrap_rest (n : Int) : wrap n % 64 = n % 64 := by unfold wrap; omega

/-- The bits that a mask of low ones leaves: the rest by a power of two. -/
theorem and_low (n : Int) (k : Nat) (hk : k ≤ 62) : bits .and .i64 n ((2 : Int) ^ k - 1) = n % (2 : Int) ^ k := by
  have hpn : (2 : Nat) ^ k ≤ 2 ^ 62 := Nat.pow_le_pow_right (by omega) hk
  have hp1 : 1 ≤ (2 : Nat) ^ k := Nat.one_le_two_pow
  have hpc : ((2 : Int) ^ k) = (((2 : Nat) ^ k : Nat) : Int) := by simp
  have h2 : (BitVec.ofInt 64 ((2 : Int) ^ k - 1)).toNat = 2 ^ k - 1 := by
    rw [hpc, show ((((2 : Nat) ^ k : Nat) : Int) - 1) = ((2 ^ k - 1 : Nat) : Int) by omega, BitVec.ofInt_natCast, BitVec.toNat_ofNat]
    exact Nat.mod_eq_of_lt (by omega)
  have h1 : (BitVec.ofInt 64 n).toNat = (n % 18446744073709551616).toNat := by rw [BitVec.toNat_ofInt]; rfl
  show IntKind.i64.wrap ((BitVec.ofInt 64 n &&& BitVec.ofInt 64 ((2 : Int) ^ k - 1)).toNat : Int) = _
  rw [BitVec.toNat_and, h1, h2, Nat.and_two_pow_sub_one_eq_mod, hpc, IntKind.wrap_i64]
  have hd : (((2 : Nat) ^ k : Nat) : Int) ∣ 18446744073709551616 := by
    have e : (18446744073709551616 : Nat) = 2 ^ 64 := by decide
    have d : (2 : Nat) ^ k ∣ (18446744073709551616 : Nat) := by rw [e]; exact Nat.pow_dvd_pow 2 (by omega)
    exact Int.natCast_dvd_natCast.2 d
  have hm : ((((n % 18446744073709551616).toNat % 2 ^ k : Nat)) : Int) = n % (((2 : Nat) ^ k : Nat) : Int) := by
    rw [Int.natCast_emod, Int.toNat_of_nonneg (Int.emod_nonneg _ (by omega)), Int.emod_emod_of_dvd _ hd]
  rw [hm]
  have := Int.emod_nonneg n (b := (((2 : Nat) ^ k : Nat) : Int)) (by omega)
  have := Int.emod_lt_of_pos n (b := (((2 : Nat) ^ k : Nat) : Int)) (by omega)
  omega
theorem and_63 (n : Int) : bits .and .i64 n 63 = n % 64 := and_low n 6 (by omega)

/-- A share, of numbers that are clipped. -/
def share (n part all : Int) : Int :=
  clip n 0 2147483647 * clip part 0 (clip all 0 2147483647) / clip all 0 2147483647
theorem mul_most (a b : Int) (ha : 0 ≤ a) (ha' : a ≤ 2147483647) (hb : 0 ≤ b) (hb' : b ≤ 2147483647) : 0 ≤ a * b ∧ a * b ≤ 4611686014132420609 := by
  refine ⟨Int.mul_nonneg ha hb, ?_⟩
  have := Int.mul_le_mul ha' hb' hb (by omega : (0 : Int) ≤ 2147483647)
  simpa using this
theorem share_lo (n part all : Int) : 0 ≤ share n part all := by
  have h1 := clip_lo n 0 2147483647
  have h2 := clip_lo part 0 (clip all 0 2147483647)
  have h3 := clip_lo all 0 2147483647
  exact Int.ediv_nonneg (Int.mul_nonneg h1 h2) h3
theorem share_hi (n part all : Int) : share n part all ≤ clip n 0 2147483647 := by
  have h1 := clip_lo n 0 2147483647
  have h3 := clip_lo all 0 2147483647
  have h2 := clip_hi part 0 (clip all 0 2147483647) h3
  unfold share
  by_cases h0 : clip all 0 2147483647 = 0
  · rw [h0]; simpa using h1
  · have := Int.ediv_le_ediv (c := clip all 0 2147483647) (by omega) (Int.mul_le_mul_of_nonneg_left h2 h1)
    rwa [Int.mul_ediv_cancel _ h0] at this
theorem share_mono (n part more all : Int) (h : part ≤ more) : share n part all ≤ share n more all := by
  have h1 := clip_lo n 0 2147483647
  have h3 := clip_lo all 0 2147483647
  have h2 : clip part 0 (clip all 0 2147483647) ≤ clip more 0 (clip all 0 2147483647) := by unfold clip; omega
  unfold share
  by_cases h0 : clip all 0 2147483647 = 0
  · rw [h0]; simp
  · exact Int.ediv_le_ediv (by omega) (Int.mul_le_mul_of_nonneg_left h2 h1)

/-- By a power of two, rounded to the nearest, halves up. -/
def round (n bits : Int) : Int :=
  if clip bits 0 32 = 0 then clip n (-1099511627776) 1099511627776
  else (clip n (-1099511627776) 1099511627776 + 2 ^ ((clip bits 0 32).toNat - 1)) / 2 ^ (clip bits 0 32).toNat
theorem pow_most (k : Nat) (h : k ≤ 32) : 1 ≤ (2 : Int) ^ k ∧ (2 : Int) ^ k ≤ 4294967296 := by
  have h1 : (2 : Nat) ^ k ≤ 2 ^ 32 := Nat.pow_le_pow_right (by omega) h
  have h2 : 1 ≤ (2 : Nat) ^ k := Nat.one_le_two_pow
  have h3 : ((2 : Int) ^ k) = (((2 : Nat) ^ k : Nat) : Int) := by simp
  omega
end Go.Proofs.Ytknmhemajmiboaa
