/- Texts that SheetheadPuts's proof stands on, part 1 of 23. No condition of its own. -/
import Derived.OpenShut
import Derived.IntWalk
namespace Go.Proofs.Ytgbnpmpkfkijdaa
def digit (b : Nat) : UInt8 := if b % 2 = 0 then 48 else 49
def rowOf (v : Nat) : Nat → List UInt8
 | 0 => []
 | n + 1 => digit (v / 2 ^ n) :: rowOf v n
theorem rowOf_length (v n : Nat) : (rowOf v n).length = n := by
 induction n with
 | zero => rfl
 | succ n ih => simp [rowOf, ih]
def isRow (l : List UInt8) : Bool := l.all (fun c => c == 48 || c == 49)
theorem digit_row (b : Nat) : (digit b == 48 || digit b == 49) = true := by
 unfold digit
 split <;> rfl
theorem rowOf_row (v n : Nat) : isRow (rowOf v n) = true := by
 induction n with
 | zero => rfl
 | succ n ih =>
  show ((digit (v / 2 ^ n) == 48 || digit (v / 2 ^ n) == 49) && isRow (rowOf v n)) = true
  rw [ih, digit_row]; rfl
def numFrom (a : Nat) : List UInt8 → Nat
 | [] => a
 | c :: l => numFrom (2 * a + (c.toNat - 48)) l
def num (l : List UInt8) : Nat := numFrom 0 l
theorem numFrom_append (a : Nat) (l m : List UInt8) : numFrom a (l ++ m) = numFrom (numFrom a l) m := by
 induction l generalizing a with
 | nil => rfl
 | cons c l ih => exact ih _
theorem bytes_append (a b : List UInt8) : (⟨a.toArray⟩ : ByteArray) ++ ⟨b.toArray⟩ = ⟨(a ++ b).toArray⟩ := by
 apply ByteArray.ext
 simp
theorem bytes_extract (l : List UInt8) (i j : Nat) : (⟨l.toArray⟩ : ByteArray).extract i j = ⟨((l.take j).drop i).toArray⟩ := by
 apply ByteArray.ext
 simp [List.drop_take]
theorem digit_of (y : Nat) : (⟨#[48, 49]⟩ : ByteArray).extract (y % 2) (y % 2 + 1) = ⟨[digit y].toArray⟩ := by
 have h : y % 2 = 0 ∨ y % 2 = 1 := by omega
 rcases h with h | h
 ·rw [h]; unfold digit; rw [h]; rfl
 ·rw [h]; unfold digit; rw [h]; rfl
theorem rowOf_step (v j y : Nat) (h : v / 2 ^ j = y) : (⟨#[48, 49]⟩ : ByteArray).extract (y % 2) (y % 2 + 1) ++ ⟨(rowOf v j).toArray⟩ = ⟨(rowOf v (j + 1)).toArray⟩ := by
 rw [digit_of, bytes_append, rowOf, h]; rfl
theorem size_mk (l : List UInt8) : (⟨l.toArray⟩ : ByteArray).size = l.length := List.size_toArray
theorem list_of (s : ByteArray) : ∃ l : List UInt8, s = ⟨l.toArray⟩ := ⟨s.data.toList, by simp⟩
theorem nought_more (l : List UInt8) (k : Nat) : (⟨(l ++ List.replicate k 48).toArray⟩ : ByteArray) ++ ⟨#[48]⟩ = ⟨(l ++ List.replicate (k + 1) 48).toArray⟩ := by
 rw [show (⟨#[48]⟩ : ByteArray) = ⟨[48].toArray⟩ from rfl, bytes_append, List.append_assoc, ← List.replicate_succ']
def showL (l : List UInt8) : List UInt8 := l.flatMap fun c => rowOf c.toNat 8
theorem showL_append (l m : List UInt8) : showL (l ++ m) = showL l ++ showL m := by simp [showL]
theorem showL_one (c : UInt8) : showL [c] = rowOf c.toNat 8 := by simp [showL]
theorem showL_length (l : List UInt8) : (showL l).length = 8 * l.length := by
 induction l with
 | nil => rfl
 | cons c l ih =>
  have e : showL (c :: l) = rowOf c.toNat 8 ++ showL l := by simp [showL]
  rw [e, List.length_append, rowOf_length, ih, List.length_cons]; omega
theorem isRow_append (l m : List UInt8) : isRow (l ++ m) = (isRow l && isRow m) := by simp [isRow]
theorem isRow_take (l : List UInt8) (j : Nat) (h : isRow l = true) : isRow (l.take j) = true := by
 unfold isRow at h ⊢
 rw [List.all_eq_true] at h ⊢
 exact fun c hc => h c (List.mem_of_mem_take hc)
theorem isRow_drop (l : List UInt8) (j : Nat) (h : isRow l = true) : isRow (l.drop j) = true := by
 unfold isRow at h ⊢
 rw [List.all_eq_true] at h ⊢
 exact fun c hc => h c (List.mem_of_mem_drop hc)
theorem isRow_get (l : List UInt8) (j : Nat) (hj : j < l.length) (h : isRow l = true) : l[j].toNat = 48 ∨ l[j].toNat = 49 := by
 unfold isRow at h
 rw [List.all_eq_true] at h
 have := h l[j] (List.getElem_mem hj)
 simp only [Bool.or_eq_true, beq_iff_eq] at this
 rcases this with e | e <;> rw [e]
 ·exact .inl rfl
 ·exact .inr rfl
theorem isRow_noughts (k : Nat) : isRow (List.replicate k 48) = true := by
 unfold isRow
 rw [List.all_eq_true]
 intro c hc
 rw [List.eq_of_mem_replicate hc]
 rfl
theorem num_take (l : List UInt8) (j : Nat) (h : j < l.length) : num (l.take (j + 1)) = 2 * num (l.take j) + (l[j].toNat - 48) := by
 rw [List.take_succ_eq_append_getElem h]
 exact numFrom_append 0 _ _
theorem num_lt (l : List UInt8) (h : isRow l = true) (j : Nat) (hj : j ≤ l.length) : num (l.take j) < 2 ^ j := by
 induction j with
 | zero => rw [List.take_zero]; decide
 | succ j ih =>
  have := ih (by omega)
  rw [num_take l j hj, Nat.pow_succ]
  rcases isRow_get l j hj h with e | e <;> omega
def padL (l : List UInt8) : List UInt8 := l ++ List.replicate ((8 - l.length % 8) % 8) 48
theorem padL_row (l : List UInt8) (h : isRow l = true) : isRow (padL l) = true := by
 unfold padL
 rw [isRow_append, h, isRow_noughts]; rfl
theorem padL_length (l : List UInt8) : (padL l).length = l.length + (8 - l.length % 8) % 8 := by
 unfold padL
 rw [List.length_append, List.length_replicate]
def packN (l : List UInt8) : Nat → List UInt8
 | 0 => []
 | n + 1 => packN l n ++ [UInt8.ofNat (num ((l.take (8 * n + 8)).drop (8 * n)))]
theorem packN_length (l : List UInt8) (n : Nat) : (packN l n).length = n := by
 induction n with
 | zero => rfl
 | succ n ih => simp [packN, ih]
def packL (l : List UInt8) : List UInt8 := packN (padL l) ((padL l).length / 8)
theorem part_size (p : List UInt8) (j : Nat) (h : 8 * j + 8 ≤ p.length) : ((⟨p.toArray⟩ : ByteArray).extract (8 * j) (8 * j + 8)).size = 8 := by
 rw [bytes_extract, size_mk, List.length_drop, List.length_take]; omega
theorem part_list (p : List UInt8) (j : Nat) : ((⟨p.toArray⟩ : ByteArray).extract (8 * j) (8 * j + 8)).data.toList = (p.take (8 * j + 8)).drop (8 * j) := by
 rw [bytes_extract]
theorem byte_back (y : Nat) (h : (y : Int) ≤ 255) : ((UInt8.ofNat y).toNat : Int) = y := by
 rw [UInt8.toNat_ofNat']; omega
end Go.Proofs.Ytgbnpmpkfkijdaa

namespace Go.Proofs.Ytgbnpmpkfkijdaa
open Go.RowKit
theorem ret_int {k : IntKind} {a b : Int} (h : a = b) : Ending.returned (.int k a) = .returned (.int k b) := by rw [h]
theorem ret_bool {a b : Bool} (h : a = b) : Ending.returned (.bool a) = .returned (.bool b) := by rw [h]
theorem wrapN {n : Int} (h : -9223372036854775808 ≤ n ∧ n ≤ 9223372036854775807) : IntKind.i64.wrap n = n := by
 rw [IntKind.wrap_i64]
 omega
def clip (n lo hi : Int) : Int := max lo (min n hi)
def wrap (n : Int) : Int := (n + 32) % 64 - 32
theorem and_low (n : Int) (k : Nat) (hk : k ≤ 62) : bits .and .i64 n ((2 : Int) ^ k - 1) = n % (2 : Int) ^ k := by
 have hpn : (2 : Nat) ^ k ≤ 2 ^ 62 := Nat.pow_le_pow_right (by omega) hk
 have hp1 : 1 ≤ (2 : Nat) ^ k := Nat.one_le_two_pow
 have hpc : ((2 : Int) ^ k) = (((2 : Nat) ^ k : Nat) : Int) := by simp
 have h2 : (BitVec.ofInt 64 ((2 : Int) ^ k - 1)).toNat = 2 ^ k - 1 := by
  rw [hpc, show ((((2 : Nat) ^ k : Nat) : Int) - 1) = ((2 ^ k - 1 : Nat) : Int) by omega, BitVec.ofInt_natCast, BitVec.toNat_ofNat]
  exact Nat.mod_eq_of_lt (by omega)
 have h1 : (BitVec.ofInt 64 n).toNat = (n % 18446744073709551616).toNat := by rw [BitVec.toNat_ofInt]; rfl
 show IntKind.i64.wrap ((BitVec.ofInt 64 n &&& BitVec.ofInt 64 ((2 : Int) ^ k - 1)).toNat : Int) = _
 rw [BitVec.toNat_and, h1, h2, Nat.and_two_pow_sub_one_eq_mod, hpc, IntKind.wrap_i64]
 have hd : (((2 : Nat) ^ k : Nat) : Int) ∣ 18446744073709551616 := by
  have e : (18446744073709551616 : Nat) = 2 ^ 64 := by decide
  have d : (2 : Nat) ^ k ∣ (18446744073709551616 : Nat) := by rw [e]; exact Nat.pow_dvd_pow 2 (by omega)
  exact Int.natCast_dvd_natCast.2 d
 have hm : ((((n % 18446744073709551616).toNat % 2 ^ k : Nat)) : Int) = n % (((2 : Nat) ^ k : Nat) : Int) := by
  rw [Int.natCast_emod, Int.toNat_of_nonneg (Int.emod_nonneg _ (by omega)), Int.emod_emod_of_dvd _ hd]
 rw [hm]
 have := Int.emod_nonneg n (b := (((2 : Nat) ^ k : Nat) : Int)) (by omega)
 have := Int.emod_lt_of_pos n (b := (((2 : Nat) ^ k : Nat) : Int)) (by omega)
 omega
def round (n bits : Int) : Int :=
 if clip bits 0 32 = 0 then clip n (-1099511627776) 1099511627776
 else (clip n (-1099511627776) 1099511627776 + 2 ^ ((clip bits 0 32).toNat - 1)) / 2 ^ (clip bits 0 32).toNat
theorem pow_most (k : Nat) (h : k ≤ 32) : 1 ≤ (2 : Int) ^ k ∧ (2 : Int) ^ k ≤ 4294967296 := by
 have h1 : (2 : Nat) ^ k ≤ 2 ^ 32 := Nat.pow_le_pow_right (by omega) h
 have h2 : 1 ≤ (2 : Nat) ^ k := Nat.one_le_two_pow
 have h3 : ((2 : Int) ^ k) = (((2 : Nat) ^ k : Nat) : Int) := by simp
 omega
end Go.Proofs.Ytgbnpmpkfkijdaa

namespace Go.Proofs.Ytgbnpmpkfkijdaa
open Go.RowKit
def byteV (c : List UInt8) : Nat := num c * 2 ^ (8 - c.length)
def byteAt (r : List UInt8) (i : Nat) : Nat := byteV ((r.drop (8 * i)).take 8)
theorem num_snoc (c : List UInt8) (d : UInt8) : num (c ++ [d]) = 2 * num c + (d.toNat - 48) := numFrom_append 0 c [d]
theorem num_noughts (c : List UInt8) (m : Nat) : num (c ++ List.replicate m 48) = num c * 2 ^ m := by
 induction m with
 | zero => simp
 | succ m ih =>
  rw [List.replicate_succ', ← List.append_assoc, num_snoc, ih, Nat.pow_succ, ← Nat.mul_assoc (num c)]
  have : ((48 : UInt8).toNat - 48) = 0 := rfl
  omega
theorem num_full (c : List UInt8) (h : isRow c = true) : num c < 2 ^ c.length := by
 have := num_lt c h c.length (Nat.le_refl _)
 rwa [List.take_of_length_le (Nat.le_refl _)] at this
theorem chunk_len (r : List UInt8) (i : Nat) : ((r.drop (8 * i)).take 8).length = min 8 (r.length - 8 * i) := by simp
theorem chunk_row (r : List UInt8) (i : Nat) (h : isRow r = true) : isRow ((r.drop (8 * i)).take 8) = true := isRow_take _ _ (isRow_drop _ _ h)
theorem byteV_lt (c : List UInt8) (h : isRow c = true) (hl : c.length ≤ 8) : byteV c < 256 := by
 have h1 := num_full c h
 have h2 : num c * 2 ^ (8 - c.length) < 2 ^ c.length * 2 ^ (8 - c.length) := Nat.mul_lt_mul_of_pos_right h1 (Nat.two_pow_pos _)
 rw [← Nat.pow_add, show c.length + (8 - c.length) = 8 by omega] at h2
 exact h2
theorem byteAt_lt (r : List UInt8) (i : Nat) (h : isRow r = true) : byteAt r i < 256 := byteV_lt _ (chunk_row r i h) (by rw [chunk_len]; omega)
theorem byteAt_over (r : List UInt8) (i : Nat) (h : r.length ≤ 8 * i) : byteAt r i = 0 := by
 unfold byteAt byteV
 rw [List.drop_eq_nil_of_le h]
 rfl
theorem byteAt_keep (r e : List UInt8) (i : Nat) (h : 8 * i + 8 ≤ r.length) : byteAt (r ++ e) i = byteAt r i := by
 unfold byteAt
 rw [List.drop_append_of_le_length (by omega), List.take_append_of_le_length (by rw [List.length_drop]; omega)]
theorem chunk_add (r : List UInt8) (d : UInt8) : ((r ++ [d]).drop (8 * (r.length / 8))).take 8 = (r.drop (8 * (r.length / 8))).take 8 ++ [d] := by
 rw [List.drop_append_of_le_length (by omega), List.take_of_length_le (l := r.drop _) (by rw [List.length_drop]; omega), List.take_of_length_le (by rw [List.length_append, List.length_drop, List.length_singleton]; omega)]
theorem byteAt_add_same (r : List UInt8) (d : UInt8) : byteAt (r ++ [d]) (r.length / 8) = byteAt r (r.length / 8) + (d.toNat - 48) * 2 ^ (7 - r.length % 8) := by
 unfold byteAt
 rw [chunk_add]
 have hl : ((r.drop (8 * (r.length / 8))).take 8).length = r.length % 8 := by rw [chunk_len]; omega
 generalize (r.drop (8 * (r.length / 8))).take 8 = c at hl
 unfold byteV
 rw [num_snoc, List.length_append, List.length_singleton, hl, show 8 - (r.length % 8 + 1) = 7 - r.length % 8 by omega, show 8 - r.length % 8 = 7 - r.length % 8 + 1 by omega, Nat.pow_succ, Nat.add_mul]
 congr 1
 rw [Nat.mul_comm 2 (num c), Nat.mul_assoc, Nat.mul_comm 2]
theorem byteAt_add_other (r : List UInt8) (d : UInt8) (i : Nat) (h : i ≠ r.length / 8) : byteAt (r ++ [d]) i = byteAt r i := by
 by_cases hi : 8 * i + 8 ≤ r.length
 ·exact byteAt_keep r [d] i hi
 ·rw [byteAt_over r i (by omega), byteAt_over _ i (by rw [List.length_append, List.length_singleton]; omega)]
theorem byteAt_nought (r : List UInt8) (i : Nat) : byteAt (r ++ [48]) i = byteAt r i := by
 by_cases hi : i = r.length / 8
 ·subst hi
  rw [byteAt_add_same, show ((48 : UInt8).toNat - 48) = 0 from rfl]; omega
 ·exact byteAt_add_other r 48 i hi
theorem byteAt_one (r : List UInt8) : byteAt (r ++ [49]) (r.length / 8) = byteAt r (r.length / 8) + 2 ^ (7 - r.length % 8) := by
 rw [byteAt_add_same, show ((49 : UInt8).toNat - 48) = 1 from rfl]; omega
theorem byteAt_low (r : List UInt8) : ∃ A, byteAt r (r.length / 8) = 2 ^ (8 - r.length % 8) * A := by
 refine ⟨num ((r.drop (8 * (r.length / 8))).take 8), ?_⟩
 unfold byteAt byteV
 rw [chunk_len, show min 8 (r.length - 8 * (r.length / 8)) = r.length % 8 by omega, Nat.mul_comm]
theorem or_bit (x j A : Nat) (hj : j < 8) (hx : x = 2 ^ (8 - j) * A) (h : x < 256) : bits .or .u8 (x : Int) (128 / 2 ^ j) = ((x + 2 ^ (7 - j) : Nat) : Int) := by
 have e1 : (128 : Int) / 2 ^ j = ((2 ^ (7 - j) : Nat) : Int) := by
  have e : (128 : Int) = 2 ^ (7 - j) * 2 ^ j := by rw [← Int.pow_add, show 7 - j + j = 7 by omega]; rfl
  rw [e, Int.mul_ediv_cancel _ (by have : (0 : Int) < 2 ^ j := Int.pow_pos (by decide); omega)]
  simp
 have hb : (2 : Nat) ^ (7 - j) < 2 ^ (8 - j) := Nat.pow_lt_pow_right (by omega) (by omega)
 have hor := Nat.two_pow_add_eq_or_of_lt hb A
 rw [← hx] at hor
 have hp : 2 ^ (7 - j) ≤ 2 ^ 7 := Nat.pow_le_pow_right (by omega) (by omega)
 have hlt : x ||| 2 ^ (7 - j) < 2 ^ 8 := Nat.or_lt_two_pow (by omega) (by omega)
 rw [e1]
 show IntKind.u8.wrap ((BitVec.ofInt 8 (x : Int) ||| BitVec.ofInt 8 ((2 ^ (7 - j) : Nat) : Int)).toNat : Int) = _
 rw [BitVec.ofInt_natCast, BitVec.ofInt_natCast, BitVec.toNat_or, BitVec.toNat_ofNat, BitVec.toNat_ofNat, Nat.mod_eq_of_lt (by omega : x < 2 ^ 8), Nat.mod_eq_of_lt (by omega : 2 ^ (7 - j) < 2 ^ 8), ← hor]
 rw [← hor] at hlt
 have : IntKind.u8.wrap ((x + 2 ^ (7 - j) : Nat) : Int) = ((x + 2 ^ (7 - j) : Nat) : Int) % 256 := rfl
 rw [this]
 omega
theorem packN_get (p : List UInt8) : ∀ n, packN p n = (List.range n).map fun i => UInt8.ofNat (num ((p.drop (8 * i)).take 8))
 | 0 => rfl
 | n + 1 => by
  rw [packN, packN_get p n, List.range_succ, List.map_append]
  congr 1
  simp only [List.map_cons, List.map_nil]
  rw [show (p.drop (8 * n)).take 8 = (p.take (8 * n + 8)).drop (8 * n) by rw [List.drop_take, show 8 * n + 8 - 8 * n = 8 by omega]]
theorem pad_chunk (r : List UInt8) (i : Nat) (h : 8 * i < r.length) : num (((padL r).drop (8 * i)).take 8) = byteAt r i := by
 unfold byteAt byteV padL
 rw [List.drop_append_of_le_length (by omega), List.take_append, ← num_noughts, chunk_len, List.length_drop]
 congr 2
 rw [List.take_replicate]
 congr 1
 omega
theorem packL_get (r : List UInt8) : packL r = (List.range ((r.length + 7) / 8)).map fun i => UInt8.ofNat (byteAt r i) := by
 unfold packL
 rw [packN_get, padL_length, show (r.length + (8 - r.length % 8) % 8) / 8 = (r.length + 7) / 8 by omega]
 apply List.map_congr_left
 intro i hi
 rw [List.mem_range] at hi
 rw [pad_chunk r i (by omega)]
theorem packL_length (r : List UInt8) : (packL r).length = (r.length + 7) / 8 := by rw [packL_get]; simp
end Go.Proofs.Ytgbnpmpkfkijdaa

namespace Go.Proofs.Ytgbnpmpkfkijdaa
theorem digit_self (c : UInt8) (h : c = 48 ∨ c = 49) : digit (c.toNat - 48) = c := by
 rcases h with rfl | rfl <;> rfl
theorem isRow_cons (c : UInt8) (l : List UInt8) : isRow (c :: l) = ((c == 48 || c == 49) && isRow l) := rfl
theorem isRow_head {c : UInt8} {l : List UInt8} (h : isRow (c :: l) = true) : (c = 48 ∨ c = 49) ∧ isRow l = true := by
 rw [isRow_cons] at h
 simpa using h
theorem rowOf_low (v x n : Nat) (h : v % 2 ^ n = x % 2 ^ n) : rowOf v n = rowOf x n := by
 induction n generalizing v x with
 | zero => rfl
 | succ n ih =>
  have hp : (2 : Nat) ^ (n + 1) = 2 ^ n * 2 := Nat.pow_succ 2 n
  have h1 : v % 2 ^ n = x % 2 ^ n := by
   have e1 := Nat.mod_mul_right_mod v (2 ^ n) 2
   have e2 := Nat.mod_mul_right_mod x (2 ^ n) 2
   rw [← hp] at e1 e2
   rw [← e1, ← e2, h]
  have h2 : v / 2 ^ n % 2 = x / 2 ^ n % 2 := by
   have e1 := Nat.mod_mul_right_div_self v (2 ^ n) 2
   have e2 := Nat.mod_mul_right_div_self x (2 ^ n) 2
   rw [← hp] at e1 e2
   rw [← e1, ← e2, h]
  show digit (v / 2 ^ n) :: rowOf v n = digit (x / 2 ^ n) :: rowOf x n
  rw [ih v x h1]
  congr 1
  unfold digit
  rw [h2]
theorem numFrom_nil (a : Nat) : numFrom a [] = a := rfl
theorem numFrom_cons (a : Nat) (c : UInt8) (l : List UInt8) : numFrom a (c :: l) = numFrom (2 * a + (c.toNat - 48)) l := numFrom_append a [c] l
section
attribute [local irreducible] numFrom
theorem numFrom_split (a : Nat) (l : List UInt8) : numFrom a l = a * 2 ^ l.length + num l := by
 unfold num
 induction l generalizing a with
 | nil => rw [numFrom_nil, numFrom_nil, List.length_nil]; simp
 | cons c l ih =>
  rw [numFrom_cons, numFrom_cons, ih, ih (2 * 0 + (c.toNat - 48)), List.length_cons, Nat.pow_succ]
  generalize 2 ^ l.length = x
  generalize numFrom 0 l = y
  generalize c.toNat - 48 = z
  rw [Nat.mul_zero, Nat.zero_add, Nat.add_mul, Nat.mul_comm 2 a, Nat.mul_assoc, Nat.mul_comm 2 x, Nat.add_assoc]
theorem num_cons (c : UInt8) (l : List UInt8) : num (c :: l) = (c.toNat - 48) * 2 ^ l.length + num l := by
 unfold num
 rw [numFrom_cons, numFrom_split, Nat.mul_zero, Nat.zero_add]
 rfl
end
theorem row_num : ∀ l : List UInt8, isRow l = true → rowOf (num l) l.length = l
 | [], _ => rfl
 | c :: l, h => by
  obtain ⟨hc, hl⟩ := isRow_head h
  have hn := num_cons c l
  have hlt := num_full l hl
  show digit (num (c :: l) / 2 ^ l.length) :: rowOf (num (c :: l)) l.length = c :: l
  rw [hn, Nat.mul_comm, Nat.mul_add_div (Nat.two_pow_pos _), Nat.div_eq_of_lt hlt, Nat.add_zero, digit_self c hc]
  congr 1
  rw [rowOf_low _ (num l) l.length (by rw [Nat.mul_add_mod])]
  exact row_num l hl
theorem show_packN (p : List UInt8) (hp : isRow p = true) : ∀ n, 8 * n ≤ p.length → showL (packN p n) = p.take (8 * n)
 | 0, _ => by simp [packN, showL]
 | n + 1, h => by
  rw [packN, showL_append, show_packN p hp n (by omega), showL_one]
  have hr : isRow ((p.take (8 * n + 8)).drop (8 * n)) = true := isRow_drop _ _ (isRow_take _ _ hp)
  have hl : ((p.take (8 * n + 8)).drop (8 * n)).length = 8 := by rw [List.length_drop, List.length_take]; omega
  have hlt := num_full _ hr
  rw [hl] at hlt
  rw [UInt8.toNat_ofNat', Nat.mod_eq_of_lt hlt]
  have e := row_num _ hr
  rw [hl] at e
  rw [e, show 8 * (n + 1) = 8 * n + 8 by omega]
  have e2 := List.take_append_drop (8 * n) (p.take (8 * n + 8))
  rw [List.take_take, show min (8 * n) (8 * n + 8) = 8 * n by omega] at e2
  exact e2
theorem show_pack (l : List UInt8) (h : isRow l = true) : showL (packL l) = padL l := by
 unfold packL
 rw [show_packN _ (padL_row l h) _ (by omega), List.take_of_length_le]
 have := padL_length l
 omega
end Go.Proofs.Ytgbnpmpkfkijdaa

namespace Go.Proofs.Ytgbnpmpkfkijdaa
open Go.RowKit
def gap (n : Nat) : Nat := (8 - n % 8) % 8
def bfrom (a : Nat) : List UInt8 → Nat
 | [] => a
 | c :: l => bfrom (256 * a + c.toNat) l
def bnum (l : List UInt8) : Nat := bfrom 0 l
theorem bfrom_append (a : Nat) (l m : List UInt8) : bfrom a (l ++ m) = bfrom (bfrom a l) m := by
 induction l generalizing a with
 | nil => rfl
 | cons c l ih => exact ih _
theorem bnum_take (l : List UInt8) (j : Nat) (h : j < l.length) : bnum (l.take (j + 1)) = 256 * bnum (l.take j) + l[j].toNat := by
 rw [List.take_succ_eq_append_getElem h]
 exact bfrom_append 0 _ _
theorem bfrom_lt (l : List UInt8) (a : Nat) : bfrom a l < (a + 1) * 256 ^ l.length := by
 induction l generalizing a with
 | nil => simp [bfrom]
 | cons c l ih =>
  have h1 := ih (256 * a + c.toNat)
  have h2 := c.toNat_lt
  have h3 : (256 * a + c.toNat + 1) * 256 ^ l.length ≤ ((a + 1) * 256) * 256 ^ l.length := Nat.mul_le_mul_right _ (by omega)
  rw [List.length_cons, Nat.pow_succ, Nat.mul_comm (256 ^ l.length), ← Nat.mul_assoc]
  exact Nat.lt_of_lt_of_le h1 h3
theorem bnum_lt (l : List UInt8) (k : Nat) (h : l.length ≤ k) : bnum l < 256 ^ k := by
 have h1 := bfrom_lt l 0
 have h2 : 256 ^ l.length ≤ 256 ^ k := Nat.pow_le_pow_right (by omega) h
 unfold bnum
 omega
section
attribute [local irreducible] numFrom
theorem num_append (l m : List UInt8) : num (l ++ m) = num l * 2 ^ m.length + num m := by
 unfold num
 rw [numFrom_append, numFrom_split]
 rfl
theorem num_rowOf (v n : Nat) : num (rowOf v n) = v % 2 ^ n := by
 induction n with
 | zero => simp [rowOf, num, numFrom_nil, Nat.mod_one]
 | succ n ih =>
  rw [rowOf, num_cons, ih, rowOf_length, Nat.mod_pow_succ]
  have : (digit (v / 2 ^ n)).toNat - 48 = v / 2 ^ n % 2 := by
   generalize v / 2 ^ n = y
   unfold digit
   rcases (by omega : y % 2 = 0 ∨ y % 2 = 1) with h | h
   ·rw [if_pos h, h]; rfl
   ·rw [if_neg (by omega), h]; rfl
  rw [this, Nat.mul_comm, Nat.add_comm]
theorem showL_cons (c : UInt8) (l : List UInt8) : showL (c :: l) = rowOf c.toNat 8 ++ showL l := by simp [showL]
theorem show_from (l : List UInt8) (a : Nat) : numFrom a (showL l) = bfrom a l := by
 induction l generalizing a with
 | nil => rw [show showL [] = [] from rfl, numFrom_nil]; rfl
 | cons c l ih =>
  rw [showL_cons, numFrom_append, ih, numFrom_split, rowOf_length, num_rowOf, Nat.mod_eq_of_lt (by have := c.toNat_lt; omega), bfrom, Nat.mul_comm]
end
theorem show_num (l : List UInt8) : num (showL l) = bnum l := show_from l 0
theorem showL_row (l : List UInt8) : isRow (showL l) = true := by
 induction l with
 | nil => rfl
 | cons c l ih => rw [showL_cons, isRow_append, rowOf_row, ih]; rfl
theorem num_mid (A X C : List UInt8) (hx : isRow X = true) (hc : isRow C = true) : num (A ++ X ++ C) / 2 ^ C.length % 2 ^ X.length = num X := by
 rw [num_append, num_append, Nat.add_comm, Nat.add_mul_div_right _ _ (Nat.two_pow_pos _), Nat.div_eq_of_lt (num_full C hc), Nat.zero_add, Nat.add_comm, Nat.add_mul_mod_self_right, Nat.mod_eq_of_lt (num_full X hx)]
theorem showL_part (l : List UInt8) (f k : Nat) (h : f + k ≤ l.length) : showL ((l.drop f).take k) = ((showL l).drop (8 * f)).take (8 * k) := by
 have e : l = l.take f ++ ((l.drop f).take k ++ (l.drop f).drop k) := by rw [List.take_append_drop, List.take_append_drop]
 have e2 : showL l = showL (l.take f) ++ (showL ((l.drop f).take k) ++ showL ((l.drop f).drop k)) := by rw [← showL_append, ← showL_append, ← e]
 rw [e2, List.drop_left' (by rw [showL_length, List.length_take, Nat.min_eq_left (by omega)]), List.take_left' (by rw [showL_length, List.length_take, List.length_drop, Nat.min_eq_left (by omega)])]
def tell (l : List UInt8) (p n : Nat) : Nat := num (((showL l).drop p).take n)
theorem tell_bytes (l : List UInt8) (f k p n : Nat) (h1 : 8 * f ≤ p) (h2 : p + n ≤ 8 * (f + k)) (h3 : f + k ≤ l.length) : bnum ((l.drop f).take k) / 2 ^ (8 * (f + k) - p - n) % 2 ^ n = tell l p n := by
 have hr := showL_row l
 have hl := showL_length l
 rw [← show_num, showL_part l f k h3]
 unfold tell
 generalize showL l = S at hr hl
 obtain ⟨T, hT⟩ : ∃ T, (S.drop (8 * f)).take (8 * k) = T := ⟨_, rfl⟩
 have hTr : isRow T = true := by rw [← hT]; exact isRow_take _ _ (isRow_drop _ _ hr)
 have hTl : T.length = 8 * k := by rw [← hT, List.length_take, List.length_drop]; omega
 have hX : (T.drop (p - 8 * f)).take n = (S.drop p).take n := by
  rw [← hT, List.drop_take, List.take_take, List.drop_drop, show min n (8 * k - (p - 8 * f)) = n by omega, show 8 * f + (p - 8 * f) = p by omega]
 have hXl : ((T.drop (p - 8 * f)).take n).length = n := by rw [List.length_take, List.length_drop]; omega
 have hCl : ((T.drop (p - 8 * f)).drop n).length = 8 * (f + k) - p - n := by rw [List.length_drop, List.length_drop]; omega
 have e : T = T.take (p - 8 * f) ++ (T.drop (p - 8 * f)).take n ++ (T.drop (p - 8 * f)).drop n := by rw [List.append_assoc, List.take_append_drop, List.take_append_drop]
 have m := num_mid (T.take (p - 8 * f)) ((T.drop (p - 8 * f)).take n) ((T.drop (p - 8 * f)).drop n) (isRow_take _ _ (isRow_drop _ _ hTr)) (isRow_drop _ _ (isRow_drop _ _ hTr))
 rw [← e, hXl, hCl, hX] at m
 rw [hT]
 exact m
theorem tell_lt (l : List UInt8) (p n : Nat) : tell l p n < 2 ^ n := by
 have h := num_full _ (isRow_take _ n (isRow_drop _ p (showL_row l)))
 have h2 : 2 ^ (((showL l).drop p).take n).length ≤ 2 ^ n := Nat.pow_le_pow_right (by omega) (by rw [List.length_take]; omega)
 exact Nat.lt_of_lt_of_le h h2
def ask (l : List UInt8) (p : Nat) (n : Int) : Int × Int :=
 if n < 0 ∨ 32 < n then (0, 1) else if 8 * (l.length : Int) - p < n then (0, 2) else (((tell l p n.toNat : Nat) : Int), 0)
theorem ask_arg {l : List UInt8} {p : Nat} {n : Int} (h : n < 0 ∨ 32 < n) : ask l p n = (0, 1) := if_pos h
theorem ask_short {l : List UInt8} {p : Nat} {n : Int} (h : 0 ≤ n ∧ n ≤ 32) (h2 : 8 * (l.length : Int) - p < n) : ask l p n = (0, 2) := by
 unfold ask; rw [if_neg (by omega), if_pos h2]
theorem ask_ok {l : List UInt8} {p : Nat} {n : Int} (h : 0 ≤ n ∧ n ≤ 32) (h2 : n ≤ 8 * (l.length : Int) - p) : ask l p n = (((tell l p n.toNat : Nat) : Int), 0) := by
 unfold ask; rw [if_neg (by omega), if_neg (by omega)]
def askTo (l : List UInt8) (p : Nat) (n : Int) : Nat := if (ask l p n).2 = 0 then p + n.toNat else p
theorem packL_most (r : List UInt8) : r.length ≤ 8 * (packL r).length := by rw [packL_length]; omega
end Go.Proofs.Ytgbnpmpkfkijdaa

namespace Go.Proofs.Ytgbnpmpkfkijdaa
open Go.RowKit
def Seg (S : List UInt8) (p q : Nat) (r : List UInt8) : Prop := p ≤ q ∧ q ≤ S.length ∧ (S.drop p).take (q - p) = r
theorem Seg.nil {S : List UInt8} {p : Nat} (hp : p ≤ S.length) : Seg S p p [] := ⟨Nat.le_refl _, hp, by rw [Nat.sub_self]; rfl⟩
theorem Seg.at {S : List UInt8} {p q : Nat} {r : List UInt8} (h : Seg S p q r) : S.drop p = r ++ S.drop q := by
 obtain ⟨h1, h2, h3⟩ := h
 rw [← h3, show S.drop q = (S.drop p).drop (q - p) by rw [List.drop_drop, show p + (q - p) = q by omega], List.take_append_drop]
theorem Seg.len {S : List UInt8} {p q : Nat} {r : List UInt8} (h : Seg S p q r) : q = p + r.length := by
 obtain ⟨h1, h2, h3⟩ := h
 have := congrArg List.length h3
 rw [List.length_take, List.length_drop] at this
 omega
theorem Seg.split {S : List UInt8} {p q : Nat} {r s : List UInt8} (h : Seg S p q (r ++ s)) : Seg S p (p + r.length) r ∧ Seg S (p + r.length) q s := by
 have hl := h.len
 rw [List.length_append] at hl
 obtain ⟨h1, h2, h3⟩ := h
 refine ⟨⟨by omega, by omega, ?_⟩, ⟨by omega, h2, ?_⟩⟩
 ·have h4 := congrArg (List.take r.length) h3
  rw [List.take_take, List.take_left, show min r.length (q - p) = r.length by omega] at h4
  rw [Nat.add_sub_cancel_left, h4]
 ·have h4 := congrArg (List.drop r.length) h3
  rw [List.drop_take, List.drop_drop, List.drop_left] at h4
  rw [show q - (p + r.length) = q - p - r.length by omega, h4]
theorem Seg.cut {S : List UInt8} {p q : Nat} {r s : List UInt8} (h : Seg S p q (r ++ s)) : ∃ m, Seg S p m r ∧ Seg S m q s := ⟨_, h.split.1, h.split.2⟩
theorem Seg.all (A r C : List UInt8) : Seg (A ++ r ++ C) A.length (A.length + r.length) r := by
 refine ⟨by omega, by simp only [List.length_append]; omega, ?_⟩
 rw [List.append_assoc, List.drop_left, Nat.add_sub_cancel_left, List.take_left]
theorem seg_tell {l : List UInt8} {p q v n : Nat} (h : Seg (showL l) p q (rowOf v n)) (hv : v < 2 ^ n) : tell l p n = v ∧ q = p + n ∧ p + n ≤ 8 * l.length := by
 have hl := h.len
 obtain ⟨h1, h2, h3⟩ := h
 rw [rowOf_length] at hl
 rw [showL_length] at h2
 refine ⟨?_, hl, by omega⟩
 unfold tell
 rw [show List.take n (List.drop p (showL l)) = rowOf v n by rw [← h3]; congr 1; omega, num_rowOf, Nat.mod_eq_of_lt hv]
end Go.Proofs.Ytgbnpmpkfkijdaa

namespace Go.Proofs.Ytgbnpmpkfkijdaa
open Go.RowKit
def fmtV (k : Int) : Int × Int × Int × Int :=
 if k = 1 then (128, 96, 6, 1) else if k = 2 then (176, 144, 9, 1) else if k = 3 then (352, 288, 18, 1) else if k = 4 then (704, 576, 18, 2) else if k = 5 then (1408, 1152, 18, 4) else if k = 6 then (32, 32, 2, 1) else (0, 0, 0, 0)
def fmtW (k : Int) : Int := (fmtV k).1
def fmtH (k : Int) : Int := (fmtV k).2.1
def fmtR (k : Int) : Int := (fmtV k).2.2.1
def fmtL (k : Int) : Int := (fmtV k).2.2.2
def isFmt (k : Int) : Bool := decide (1 ≤ k ∧ k ≤ 6)
theorem fmt_cases (k : Int) : k = 1 ∨ k = 2 ∨ k = 3 ∨ k = 4 ∨ k = 5 ∨ k = 6 ∨ (isFmt k = false ∧ fmtV k = (0, 0, 0, 0)) := by
 by_cases h : 1 ≤ k ∧ k ≤ 6
 ·omega
 ·refine .inr (.inr (.inr (.inr (.inr (.inr ⟨by simpa [isFmt] using h, ?_⟩)))))
  unfold fmtV
  rw [if_neg (by omega), if_neg (by omega), if_neg (by omega), if_neg (by omega), if_neg (by omega), if_neg (by omega)]
theorem fmt_none {k : Int} (h : isFmt k = false) : (k == 1) = false ∧ (k == 2) = false ∧ (k == 3) = false ∧ (k == 4) = false ∧ (k == 5) = false ∧ (k == 6) = false := by
 have h1 : ¬ (1 ≤ k ∧ k ≤ 6) := by simpa [isFmt] using h
 refine ⟨?_, ?_, ?_, ?_, ?_, ?_⟩ <;> (simp; omega)
end Go.Proofs.Ytgbnpmpkfkijdaa
