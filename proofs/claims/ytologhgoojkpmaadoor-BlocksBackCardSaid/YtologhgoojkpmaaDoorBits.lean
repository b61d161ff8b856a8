/- Plain lists alone: rows of the digits 0 and 1 as lists of bytes, the number that a row tells, a number's row, and packing and showing; with the facts that the walks use. No condition. -/
import Derived.OpenShut
import Derived.IntWalk
namespace Go.Proofs.YtologhgoojkpmaaDoor

/-- The digit of a bit, as a byte. -/
def digit (b : Nat) : UInt8 := if b % 2 = 0 then 48 else 49
/-- The lowest n digits of v, the highest first. -/
def rowOf (v : Nat) : Nat → List UInt8
  | 0 => []
  | n + 1 => digit (v / 2 ^ n) :: rowOf v n
theorem rowOf_length (v n : Nat) : (rowOf v n).length = n := by
  induction n with
  | zero => rfl
  | succ n ih => simp [rowOf, ih]
/-- Has a text no other byte than the digits? -/
def isRow (l : List UInt8) : Bool := l.all (fun c => c == 48 || c == 49)
theorem digit_row (b : Nat) : (digit b == 48 || digit b == 49) = true := by
  unfold digit
  split <;> rfl
theorem rowOf_row (v n : Nat) : isRow (rowOf v n) = true := by
  induction n with
  | zero => rfl
  | succ n ih =>
    show ((digit (v / 2 ^ n) == 48 || digit (v / 2 ^ n) == 49) && isRow (rowOf v n)) = true
    rw [ih, digit_row]; rfl
/-- The number that a row tells. -/
def numFrom (a : Nat) : List UInt8 → Nat
  | [] => a
  | c :: l => numFrom (2 * a + (c.toNat - 48)) l
def num (l : List UInt8) : Nat := numFrom 0 l
theorem numFrom_append (a : Nat) (l m : List UInt8) : numFrom a (l ++ m) = numFrom (numFrom a l) m := by
  induction l generalizing a with
  | nil => rfl
  | cons c l ih => exact ih _

theorem bytes_append (a b : List UInt8) : (⟨a.toArray⟩ : ByteArray) ++ ⟨b.toArray⟩ = ⟨(a ++ b).toArray⟩ := by
  apply ByteArray.ext
  simp
theorem bytes_extract (l : List UInt8) (i j : Nat) : (⟨l.toArray⟩ : ByteArray).extract i j = ⟨((l.take j).drop i).toArray⟩ := by
  apply ByteArray.ext
  simp [List.drop_take]
theorem digit_of (y : Nat) : (⟨#[48, 49]⟩ : ByteArray).extract (y % 2) (y % 2 + 1) = ⟨[digit y].toArray⟩ := by
  have h : y % 2 = 0 ∨ y % 2 = 1 := by omega
  rcases h with h | h
  · rw [h]; unfold digit; rw [h]; rfl
  · rw [h]; unfold digit; rw [h]; rfl
theorem rowOf_step (v j y : Nat) (h : v / 2 ^ j = y) : (⟨#[48, 49]⟩ : ByteArray).extract (y % 2) (y % 2 + 1) ++ ⟨(rowOf v j).toArray⟩ = ⟨(rowOf v (j + 1)).toArray⟩ := by
  rw [digit_of, bytes_append, rowOf, h]; rfl

theorem size_mk (l : List UInt8) : (⟨l.toArray⟩ : ByteArray).size = l.length := List.size_toArray
theorem list_of (s : ByteArray) : ∃ l : List UInt8, s = ⟨l.toArray⟩ := ⟨s.data.toList, by simp⟩
theorem nought_more (l : List UInt8) (k : Nat) : (⟨(l ++ List.replicate k 48).toArray⟩ : ByteArray) ++ ⟨#[48]⟩ = ⟨(l ++ List.replicate (k + 1) 48).toArray⟩ := by
  rw [show (⟨#[48]⟩ : ByteArray) = ⟨[48].toArray⟩ from rfl, bytes_append, List.append_assoc, ← List.replicate_succ']
/-- The bits of a text, as a row. -/
def showL (l : List UInt8) : List UInt8 := l.flatMap fun c => rowOf c.toNat 8
theorem showL_append (l m : List UInt8) : showL (l ++ m) = showL l ++ showL m := by simp [showL]
theorem showL_one (c : UInt8) : showL [c] = rowOf c.toNat 8 := by simp [showL]
theorem showL_length (l : List UInt8) : (showL l).length = 8 * l.length := by
  induction l with
  | nil => rfl
  | cons c l ih =>
    have e : showL (c :: l) = rowOf c.toNat 8 ++ showL l := by simp [showL]
    rw [e, List.length_append, rowOf_length, ih, List.length_cons]; omega
theorem showL_take (l : List UInt8) (j : Nat) (h : j < l.length) : showL (l.take (j + 1)) = showL (l.take j) ++ rowOf l[j].toNat 8 := by
  rw [List.take_succ_eq_append_getElem h, showL_append, showL_one]

theorem isRow_append (l m : List UInt8) : isRow (l ++ m) = (isRow l && isRow m) := by simp [isRow]
theorem isRow_take (l : List UInt8) (j : Nat) (h : isRow l = true) : isRow (l.take j) = true := by
  unfold isRow at h ⊢
  rw [List.all_eq_true] at h ⊢
  exact fun c hc => h c (List.mem_of_mem_take hc)
theorem isRow_drop (l : List UInt8) (j : Nat) (h : isRow l = true) : isRow (l.drop j) = true := by
  unfold isRow at h ⊢
  rw [List.all_eq_true] at h ⊢
  exact fun c hc => h c (List.mem_of_mem_drop hc)
theorem isRow_get (l : List UInt8) (j : Nat) (hj : j < l.length) (h : isRow l = true) : l[j].toNat = 48 ∨ l[j].toNat = 49 := by
  unfold isRow at h
  rw [List.all_eq_true] at h
  have := h l[j] (List.getElem_mem hj)
  simp only [Bool.or_eq_true, beq_iff_eq] at this
  rcases this with e | e <;> rw [e]
  · exact .inl rfl
  · exact .inr rfl
theorem isRow_noughts (k : Nat) : isRow (List.replicate k 48) = true := by
  unfold isRow
  rw [List.all_eq_true]
  intro c hc
  rw [List.eq_of_mem_replicate hc]
  rfl
theorem num_take (l : List UInt8) (j : Nat) (h : j < l.length) : num (l.take (j + 1)) = 2 * num (l.take j) + (l[j].toNat - 48) := by
  rw [List.take_succ_eq_append_getElem h]
  exact numFrom_append 0 _ _
theorem num_lt (l : List UInt8) (h : isRow l = true) (j : Nat) (hj : j ≤ l.length) : num (l.take j) < 2 ^ j := by
  induction j with
  | zero => rw [List.take_zero]; decide
  | succ j ih =>
    have := ih (by omega)
    rw [num_take l j hj, Nat.pow_succ]
    rcases isRow_get l j hj h with e | e <;> omega

/-- A row with noughts behind it, up to a byte's end. -/
def padL (l : List UInt8) : List UInt8 := l ++ List.replicate ((8 - l.length % 8) % 8) 48
theorem padL_row (l : List UInt8) (h : isRow l = true) : isRow (padL l) = true := by
  unfold padL
  rw [isRow_append, h, isRow_noughts]; rfl
theorem padL_length (l : List UInt8) : (padL l).length = l.length + (8 - l.length % 8) % 8 := by
  unfold padL
  rw [List.length_append, List.length_replicate]
/-- The first n bytes that have these bits. -/
def packN (l : List UInt8) : Nat → List UInt8
  | 0 => []
  | n + 1 => packN l n ++ [UInt8.ofNat (num ((l.take (8 * n + 8)).drop (8 * n)))]
theorem packN_length (l : List UInt8) (n : Nat) : (packN l n).length = n := by
  induction n with
  | zero => rfl
  | succ n ih => simp [packN, ih]
/-- The bytes that have a row's bits, the last one filled up with noughts. -/
def packL (l : List UInt8) : List UInt8 := packN (padL l) ((padL l).length / 8)

theorem part_size (p : List UInt8) (j : Nat) (h : 8 * j + 8 ≤ p.length) : ((⟨p.toArray⟩ : ByteArray).extract (8 * j) (8 * j + 8)).size = 8 := by
  rw [bytes_extract, size_mk, List.length_drop, List.length_take]; omega
theorem part_list (p : List UInt8) (j : Nat) : ((⟨p.toArray⟩ : ByteArray).extract (8 * j) (8 * j + 8)).data.toList = (p.take (8 * j + 8)).drop (8 * j) := by
  rw [bytes_extract]
theorem byte_back (y : Nat) (h : (y : Int) ≤ 255) : ((UInt8.ofNat y).toNat : Int) = y := by
  rw [UInt8.toNat_ofNat']; omega
end Go.Proofs.YtologhgoojkpmaaDoor
