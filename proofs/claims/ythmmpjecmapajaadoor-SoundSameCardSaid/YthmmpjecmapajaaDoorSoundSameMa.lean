/- Texts that SoundSame's proof stands on, part 1 of 48. No condition of its own. -/
import Derived.OpenShut
import Derived.IntWalk
namespace Go.Proofs.YthmmpjecmapajaaDoor
def digit (b : Nat) : UInt8 := if b % 2 = 0 then 48 else 49
def rowOf (v : Nat) : Nat → List UInt8
 | 0 => []
 | n + 1 => digit (v / 2 ^ n) :: rowOf v n
theorem rowOf_length (v n : Nat) : (rowOf v n).length = n := by
 induction n with
 | zero => rfl
 | succ n ih => simp [rowOf, ih]
def isRow (l : List UInt8) : Bool := l.all (fun c => c == 48 || c == 49)
theorem digit_row (b : Nat) : (digit b == 48 || digit b == 49) = true := by
 unfold digit
 split <;> rfl
theorem rowOf_row (v n : Nat) : isRow (rowOf v n) = true := by
 induction n with
 | zero => rfl
 | succ n ih =>
  show ((digit (v / 2 ^ n) == 48 || digit (v / 2 ^ n) == 49) && isRow (rowOf v n)) = true
  rw [ih, digit_row]; rfl
def numFrom (a : Nat) : List UInt8 → Nat
 | [] => a
 | c :: l => numFrom (2 * a + (c.toNat - 48)) l
def num (l : List UInt8) : Nat := numFrom 0 l
theorem numFrom_append (a : Nat) (l m : List UInt8) : numFrom a (l ++ m) = numFrom (numFrom a l) m := by
 induction l generalizing a with
 | nil => rfl
 | cons c l ih => exact ih _
theorem size_mk (l : List UInt8) : (⟨l.toArray⟩ : ByteArray).size = l.length := List.size_toArray
def showL (l : List UInt8) : List UInt8 := l.flatMap fun c => rowOf c.toNat 8
theorem isRow_append (l m : List UInt8) : isRow (l ++ m) = (isRow l && isRow m) := by simp [isRow]
theorem isRow_take (l : List UInt8) (j : Nat) (h : isRow l = true) : isRow (l.take j) = true := by
 unfold isRow at h ⊢
 rw [List.all_eq_true] at h ⊢
 exact fun c hc => h c (List.mem_of_mem_take hc)
theorem isRow_drop (l : List UInt8) (j : Nat) (h : isRow l = true) : isRow (l.drop j) = true := by
 unfold isRow at h ⊢
 rw [List.all_eq_true] at h ⊢
 exact fun c hc => h c (List.mem_of_mem_drop hc)
theorem isRow_get (l : List UInt8) (j : Nat) (hj : j < l.length) (h : isRow l = true) : l[j].toNat = 48 ∨ l[j].toNat = 49 := by
 unfold isRow at h
 rw [List.all_eq_true] at h
 have := h l[j] (List.getElem_mem hj)
 simp only [Bool.or_eq_true, beq_iff_eq] at this
 rcases this with e | e <;> rw [e]
 ·exact .inl rfl
 ·exact .inr rfl
theorem num_take (l : List UInt8) (j : Nat) (h : j < l.length) : num (l.take (j + 1)) = 2 * num (l.take j) + (l[j].toNat - 48) := by
 rw [List.take_succ_eq_append_getElem h]
 exact numFrom_append 0 _ _
theorem num_lt (l : List UInt8) (h : isRow l = true) (j : Nat) (hj : j ≤ l.length) : num (l.take j) < 2 ^ j := by
 induction j with
 | zero => rw [List.take_zero]; decide
 | succ j ih =>
  have := ih (by omega)
  rw [num_take l j hj, Nat.pow_succ]
  rcases isRow_get l j hj h with e | e <;> omega
end Go.Proofs.YthmmpjecmapajaaDoor

namespace Go.Proofs.YthmmpjecmapajaaDoor
open Go.RowKit
theorem ret_int {k : IntKind} {a b : Int} (h : a = b) : Ending.returned (.int k a) = .returned (.int k b) := by rw [h]
theorem ret_bool {a b : Bool} (h : a = b) : Ending.returned (.bool a) = .returned (.bool b) := by rw [h]
theorem wrapN {n : Int} (h : -9223372036854775808 ≤ n ∧ n ≤ 9223372036854775807) : IntKind.i64.wrap n = n := by
 rw [IntKind.wrap_i64]
 omega
theorem wrapNat {n : Nat} (h : n ≤ 9223372036854775807) : IntKind.i64.wrap (n : Int) = (n : Int) := wrapN (by omega)
def clip (n lo hi : Int) : Int := max lo (min n hi)
def wrap (n : Int) : Int := (n + 32) % 64 - 32
theorem and_low (n : Int) (k : Nat) (hk : k ≤ 62) : bits .and .i64 n ((2 : Int) ^ k - 1) = n % (2 : Int) ^ k := by
 have hpn : (2 : Nat) ^ k ≤ 2 ^ 62 := Nat.pow_le_pow_right (by omega) hk
 have hp1 : 1 ≤ (2 : Nat) ^ k := Nat.one_le_two_pow
 have hpc : ((2 : Int) ^ k) = (((2 : Nat) ^ k : Nat) : Int) := by simp
 have h2 : (BitVec.ofInt 64 ((2 : Int) ^ k - 1)).toNat = 2 ^ k - 1 := by
  rw [hpc, show ((((2 : Nat) ^ k : Nat) : Int) - 1) = ((2 ^ k - 1 : Nat) : Int) by omega, BitVec.ofInt_natCast, BitVec.toNat_ofNat]
  exact Nat.mod_eq_of_lt (by omega)
 have h1 : (BitVec.ofInt 64 n).toNat = (n % 18446744073709551616).toNat := by rw [BitVec.toNat_ofInt]; rfl
 show IntKind.i64.wrap ((BitVec.ofInt 64 n &&& BitVec.ofInt 64 ((2 : Int) ^ k - 1)).toNat : Int) = _
 rw [BitVec.toNat_and, h1, h2, Nat.and_two_pow_sub_one_eq_mod, hpc, IntKind.wrap_i64]
 have hd : (((2 : Nat) ^ k : Nat) : Int) ∣ 18446744073709551616 := by
  have e : (18446744073709551616 : Nat) = 2 ^ 64 := by decide
  have d : (2 : Nat) ^ k ∣ (18446744073709551616 : Nat) := by rw [e]; exact Nat.pow_dvd_pow 2 (by omega)
  exact Int.natCast_dvd_natCast.2 d
 have hm : ((((n % 18446744073709551616).toNat % 2 ^ k : Nat)) : Int) = n % (((2 : Nat) ^ k : Nat) : Int) := by
  rw [Int.natCast_emod, Int.toNat_of_nonneg (Int.emod_nonneg _ (by omega)), Int.emod_emod_of_dvd _ hd]
 rw [hm]
 have := Int.emod_nonneg n (b := (((2 : Nat) ^ k : Nat) : Int)) (by omega)
 have := Int.emod_lt_of_pos n (b := (((2 : Nat) ^ k : Nat) : Int)) (by omega)
 omega
theorem and_63 (n : Int) : bits .and .i64 n 63 = n % 64 := and_low n 6 (by omega)
def round (n bits : Int) : Int :=
 if clip bits 0 32 = 0 then clip n (-1099511627776) 1099511627776
 else (clip n (-1099511627776) 1099511627776 + 2 ^ ((clip bits 0 32).toNat - 1)) / 2 ^ (clip bits 0 32).toNat
end Go.Proofs.YthmmpjecmapajaaDoor

namespace Go.Proofs.YthmmpjecmapajaaDoor
open Go.RowKit
def byteV (c : List UInt8) : Nat := num c * 2 ^ (8 - c.length)
def byteAt (r : List UInt8) (i : Nat) : Nat := byteV ((r.drop (8 * i)).take 8)
theorem num_snoc (c : List UInt8) (d : UInt8) : num (c ++ [d]) = 2 * num c + (d.toNat - 48) := numFrom_append 0 c [d]
theorem num_full (c : List UInt8) (h : isRow c = true) : num c < 2 ^ c.length := by
 have := num_lt c h c.length (Nat.le_refl _)
 rwa [List.take_of_length_le (Nat.le_refl _)] at this
theorem chunk_len (r : List UInt8) (i : Nat) : ((r.drop (8 * i)).take 8).length = min 8 (r.length - 8 * i) := by simp
theorem chunk_row (r : List UInt8) (i : Nat) (h : isRow r = true) : isRow ((r.drop (8 * i)).take 8) = true := isRow_take _ _ (isRow_drop _ _ h)
theorem byteV_lt (c : List UInt8) (h : isRow c = true) (hl : c.length ≤ 8) : byteV c < 256 := by
 have h1 := num_full c h
 have h2 : num c * 2 ^ (8 - c.length) < 2 ^ c.length * 2 ^ (8 - c.length) := Nat.mul_lt_mul_of_pos_right h1 (Nat.two_pow_pos _)
 rw [← Nat.pow_add, show c.length + (8 - c.length) = 8 by omega] at h2
 exact h2
theorem byteAt_lt (r : List UInt8) (i : Nat) (h : isRow r = true) : byteAt r i < 256 := byteV_lt _ (chunk_row r i h) (by rw [chunk_len]; omega)
theorem byteAt_over (r : List UInt8) (i : Nat) (h : r.length ≤ 8 * i) : byteAt r i = 0 := by
 unfold byteAt byteV
 rw [List.drop_eq_nil_of_le h]
 rfl
theorem byteAt_keep (r e : List UInt8) (i : Nat) (h : 8 * i + 8 ≤ r.length) : byteAt (r ++ e) i = byteAt r i := by
 unfold byteAt
 rw [List.drop_append_of_le_length (by omega), List.take_append_of_le_length (by rw [List.length_drop]; omega)]
theorem chunk_add (r : List UInt8) (d : UInt8) : ((r ++ [d]).drop (8 * (r.length / 8))).take 8 = (r.drop (8 * (r.length / 8))).take 8 ++ [d] := by
 rw [List.drop_append_of_le_length (by omega), List.take_of_length_le (l := r.drop _) (by rw [List.length_drop]; omega), List.take_of_length_le (by rw [List.length_append, List.length_drop, List.length_singleton]; omega)]
theorem byteAt_add_same (r : List UInt8) (d : UInt8) : byteAt (r ++ [d]) (r.length / 8) = byteAt r (r.length / 8) + (d.toNat - 48) * 2 ^ (7 - r.length % 8) := by
 unfold byteAt
 rw [chunk_add]
 have hl : ((r.drop (8 * (r.length / 8))).take 8).length = r.length % 8 := by rw [chunk_len]; omega
 generalize (r.drop (8 * (r.length / 8))).take 8 = c at hl
 unfold byteV
 rw [num_snoc, List.length_append, List.length_singleton, hl, show 8 - (r.length % 8 + 1) = 7 - r.length % 8 by omega, show 8 - r.length % 8 = 7 - r.length % 8 + 1 by omega, Nat.pow_succ, Nat.add_mul]
 congr 1
 rw [Nat.mul_comm 2 (num c), Nat.mul_assoc, Nat.mul_comm 2]
theorem byteAt_add_other (r : List UInt8) (d : UInt8) (i : Nat) (h : i ≠ r.length / 8) : byteAt (r ++ [d]) i = byteAt r i := by
 by_cases hi : 8 * i + 8 ≤ r.length
 ·exact byteAt_keep r [d] i hi
 ·rw [byteAt_over r i (by omega), byteAt_over _ i (by rw [List.length_append, List.length_singleton]; omega)]
theorem byteAt_nought (r : List UInt8) (i : Nat) : byteAt (r ++ [48]) i = byteAt r i := by
 by_cases hi : i = r.length / 8
 ·subst hi
  rw [byteAt_add_same, show ((48 : UInt8).toNat - 48) = 0 from rfl]; omega
 ·exact byteAt_add_other r 48 i hi
theorem byteAt_one (r : List UInt8) : byteAt (r ++ [49]) (r.length / 8) = byteAt r (r.length / 8) + 2 ^ (7 - r.length % 8) := by
 rw [byteAt_add_same, show ((49 : UInt8).toNat - 48) = 1 from rfl]; omega
theorem byteAt_low (r : List UInt8) : ∃ A, byteAt r (r.length / 8) = 2 ^ (8 - r.length % 8) * A := by
 refine ⟨num ((r.drop (8 * (r.length / 8))).take 8), ?_⟩
 unfold byteAt byteV
 rw [chunk_len, show min 8 (r.length - 8 * (r.length / 8)) = r.length % 8 by omega, Nat.mul_comm]
theorem or_bit (x j A : Nat) (hj : j < 8) (hx : x = 2 ^ (8 - j) * A) (h : x < 256) : bits .or .u8 (x : Int) (128 / 2 ^ j) = ((x + 2 ^ (7 - j) : Nat) : Int) := by
 have e1 : (128 : Int) / 2 ^ j = ((2 ^ (7 - j) : Nat) : Int) := by
  have e : (128 : Int) = 2 ^ (7 - j) * 2 ^ j := by rw [← Int.pow_add, show 7 - j + j = 7 by omega]; rfl
  rw [e, Int.mul_ediv_cancel _ (by have : (0 : Int) < 2 ^ j := Int.pow_pos (by decide); omega)]
  simp
 have hb : (2 : Nat) ^ (7 - j) < 2 ^ (8 - j) := Nat.pow_lt_pow_right (by omega) (by omega)
 have hor := Nat.two_pow_add_eq_or_of_lt hb A
 rw [← hx] at hor
 have hp : 2 ^ (7 - j) ≤ 2 ^ 7 := Nat.pow_le_pow_right (by omega) (by omega)
 have hlt : x ||| 2 ^ (7 - j) < 2 ^ 8 := Nat.or_lt_two_pow (by omega) (by omega)
 rw [e1]
 show IntKind.u8.wrap ((BitVec.ofInt 8 (x : Int) ||| BitVec.ofInt 8 ((2 ^ (7 - j) : Nat) : Int)).toNat : Int) = _
 rw [BitVec.ofInt_natCast, BitVec.ofInt_natCast, BitVec.toNat_or, BitVec.toNat_ofNat, BitVec.toNat_ofNat, Nat.mod_eq_of_lt (by omega : x < 2 ^ 8), Nat.mod_eq_of_lt (by omega : 2 ^ (7 - j) < 2 ^ 8), ← hor]
 rw [← hor] at hlt
 have : IntKind.u8.wrap ((x + 2 ^ (7 - j) : Nat) : Int) = ((x + 2 ^ (7 - j) : Nat) : Int) % 256 := rfl
 rw [this]
 omega
end Go.Proofs.YthmmpjecmapajaaDoor

namespace Go.Proofs.YthmmpjecmapajaaDoor
open Go.RowKit
def gap (n : Nat) : Nat := (8 - n % 8) % 8
section
end
def tell (l : List UInt8) (p n : Nat) : Nat := num (((showL l).drop p).take n)
def ask (l : List UInt8) (p : Nat) (n : Int) : Int × Int :=
 if n < 0 ∨ 32 < n then (0, 1) else if 8 * (l.length : Int) - p < n then (0, 2) else (((tell l p n.toNat : Nat) : Int), 0)
end Go.Proofs.YthmmpjecmapajaaDoor

namespace Go.Proofs.YthmmpjecmapajaaDoor
open Go.RowKit
def Seg (S : List UInt8) (p q : Nat) (r : List UInt8) : Prop := p ≤ q ∧ q ≤ S.length ∧ (S.drop p).take (q - p) = r
theorem Seg.nil {S : List UInt8} {p : Nat} (hp : p ≤ S.length) : Seg S p p [] := ⟨Nat.le_refl _, hp, by rw [Nat.sub_self]; rfl⟩
theorem Seg.app {S : List UInt8} {p q t : Nat} {r s : List UInt8} (h : Seg S p q r) (k : Seg S q t s) : Seg S p t (r ++ s) := by
 obtain ⟨h1, h2, h3⟩ := h
 obtain ⟨k1, k2, k3⟩ := k
 refine ⟨by omega, k2, ?_⟩
 rw [show t - p = (q - p) + (t - q) by omega, List.take_add, h3, List.drop_drop, show p + (q - p) = q by omega, k3]
theorem Seg.at {S : List UInt8} {p q : Nat} {r : List UInt8} (h : Seg S p q r) : S.drop p = r ++ S.drop q := by
 obtain ⟨h1, h2, h3⟩ := h
 rw [← h3, show S.drop q = (S.drop p).drop (q - p) by rw [List.drop_drop, show p + (q - p) = q by omega], List.take_append_drop]
theorem Seg.len {S : List UInt8} {p q : Nat} {r : List UInt8} (h : Seg S p q r) : q = p + r.length := by
 obtain ⟨h1, h2, h3⟩ := h
 have := congrArg List.length h3
 rw [List.length_take, List.length_drop] at this
 omega
theorem Seg.split {S : List UInt8} {p q : Nat} {r s : List UInt8} (h : Seg S p q (r ++ s)) : Seg S p (p + r.length) r ∧ Seg S (p + r.length) q s := by
 have hl := h.len
 rw [List.length_append] at hl
 obtain ⟨h1, h2, h3⟩ := h
 refine ⟨⟨by omega, by omega, ?_⟩, ⟨by omega, h2, ?_⟩⟩
 ·have h4 := congrArg (List.take r.length) h3
  rw [List.take_take, List.take_left, show min r.length (q - p) = r.length by omega] at h4
  rw [Nat.add_sub_cancel_left, h4]
 ·have h4 := congrArg (List.drop r.length) h3
  rw [List.drop_take, List.drop_drop, List.drop_left] at h4
  rw [show q - (p + r.length) = q - p - r.length by omega, h4]
theorem Seg.all (A r C : List UInt8) : Seg (A ++ r ++ C) A.length (A.length + r.length) r := by
 refine ⟨by omega, by simp only [List.length_append]; omega, ?_⟩
 rw [List.append_assoc, List.drop_left, Nat.add_sub_cancel_left, List.take_left]
end Go.Proofs.YthmmpjecmapajaaDoor

namespace Go.Proofs.YthmmpjecmapajaaDoor
open Go.RowKit
def fmtV (k : Int) : Int × Int × Int × Int :=
 if k = 1 then (128, 96, 6, 1) else if k = 2 then (176, 144, 9, 1) else if k = 3 then (352, 288, 18, 1) else if k = 4 then (704, 576, 18, 2) else if k = 5 then (1408, 1152, 18, 4) else if k = 6 then (32, 32, 2, 1) else (0, 0, 0, 0)
def fmtW (k : Int) : Int := (fmtV k).1
def fmtH (k : Int) : Int := (fmtV k).2.1
def fmtR (k : Int) : Int := (fmtV k).2.2.1
def fmtL (k : Int) : Int := (fmtV k).2.2.2
def isFmt (k : Int) : Bool := decide (1 ≤ k ∧ k ≤ 6)
theorem fmt_cases (k : Int) : k = 1 ∨ k = 2 ∨ k = 3 ∨ k = 4 ∨ k = 5 ∨ k = 6 ∨ (isFmt k = false ∧ fmtV k = (0, 0, 0, 0)) := by
 by_cases h : 1 ≤ k ∧ k ≤ 6
 ·omega
 ·refine .inr (.inr (.inr (.inr (.inr (.inr ⟨by simpa [isFmt] using h, ?_⟩)))))
  unfold fmtV
  rw [if_neg (by omega), if_neg (by omega), if_neg (by omega), if_neg (by omega), if_neg (by omega), if_neg (by omega)]
theorem fmt_none {k : Int} (h : isFmt k = false) : (k == 1) = false ∧ (k == 2) = false ∧ (k == 3) = false ∧ (k == 4) = false ∧ (k == 5) = false ∧ (k == 6) = false := by
 have h1 : ¬ (1 ≤ k ∧ k ≤ 6) := by simpa [isFmt] using h
 refine ⟨?_, ?_, ?_, ?_, ?_, ?_⟩ <;> (simp; omega)
end Go.Proofs.YthmmpjecmapajaaDoor
