/- Plain lists alone: which mark begins at a bit of a text, which one comes, how many noughts stand there, and at which byte a sheet or the end begins. No condition. -/
import Derived.Test.YtmmcmckadkgmmaaRef3
namespace Go.Proofs.Ytmmcmckadkgmmaa
open Go.RowKit

/-- The mark that begins at a bit: its number, and what is wrong. -/
def markAt (l : List UInt8) (bit : Int) : Int × Int :=
  if bit < 0 ∨ 8 * (l.length : Int) < bit then (0, 1) else if 8 * (l.length : Int) - bit < 22 then (0, 2)
  else if tell l bit.toNat 22 / 32 = 1 then (((tell l bit.toNat 22 % 32 : Nat) : Int), 0) else (0, 4)
theorem mark_arg {l : List UInt8} {bit : Int} (h : bit < 0 ∨ 8 * (l.length : Int) < bit) : markAt l bit = (0, 1) := if_pos h
theorem mark_short {l : List UInt8} {p : Nat} (h : p ≤ 8 * l.length) (h2 : 8 * l.length < p + 22) : markAt l p = (0, 2) := by
  unfold markAt; rw [if_neg (by omega), if_pos (by omega)]
theorem mark_in {l : List UInt8} {p : Nat} (h : p + 22 ≤ 8 * l.length) : markAt l p = if tell l p 22 / 32 = 1 then (((tell l p 22 % 32 : Nat) : Int), 0) else (0, 4) := by
  unfold markAt; rw [if_neg (by omega), if_neg (by omega), Int.toNat_natCast]
theorem mark_zero {l : List UInt8} {bit : Int} (h : (markAt l bit).2 ≠ 0) : (markAt l bit).1 = 0 := by
  revert h
  unfold markAt
  split
  · exact fun _ => rfl
  · split
    · exact fun _ => rfl
    · split
      · exact fun h => absurd rfl h
      · exact fun _ => rfl
theorem mark_most (l : List UInt8) (bit : Int) : 0 ≤ (markAt l bit).1 ∧ (markAt l bit).1 ≤ 31 := by
  unfold markAt
  split
  · exact ⟨by decide, by decide⟩
  · split
    · exact ⟨by decide, by decide⟩
    · split
      · simp only; omega
      · exact ⟨by decide, by decide⟩

/-- The mark that comes behind noughts up to a byte's end. -/
def nextOf (l : List UInt8) (bit : Int) : Int × Bool :=
  if bit < 0 ∨ 8 * (l.length : Int) < bit then (0, false) else if tell l bit.toNat (gap bit.toNat) = 0 then
    ((markAt l ((bit.toNat + gap bit.toNat : Nat) : Int)).1, (markAt l ((bit.toNat + gap bit.toNat : Nat) : Int)).2 == 0) else (0, false)
theorem next_arg {l : List UInt8} {bit : Int} (h : bit < 0 ∨ 8 * (l.length : Int) < bit) : nextOf l bit = (0, false) := if_pos h
theorem next_in {l : List UInt8} {p : Nat} (h : p ≤ 8 * l.length) (h2 : tell l p (gap p) = 0) : nextOf l p = ((markAt l ((p + gap p : Nat) : Int)).1, (markAt l ((p + gap p : Nat) : Int)).2 == 0) := by
  unfold nextOf; rw [if_neg (by omega), Int.toNat_natCast, if_pos h2]
theorem next_not {l : List UInt8} {p : Nat} (h : p ≤ 8 * l.length) (h2 : tell l p (gap p) ≠ 0) : nextOf l p = (0, false) := by
  unfold nextOf; rw [if_neg (by omega), Int.toNat_natCast, if_neg h2]
theorem next_zero {l : List UInt8} {bit : Int} (h : (nextOf l bit).2 = false) : (nextOf l bit).1 = 0 := by
  revert h
  unfold nextOf
  split
  · exact fun _ => rfl
  · split
    · intro h
      exact mark_zero (by simpa using h)
    · exact fun _ => rfl

/-- How many noughts stand from a bit on. -/
def noughts (l : List UInt8) (bit : Int) : Nat := if bit < 0 then 0 else (((showL l).drop bit.toNat).takeWhile (· == 48)).length
theorem lead_length : ∀ (L : List UInt8) (n : Nat), (∀ i, i < n → L[i]? = some 48) → L[n]? ≠ some 48 → (L.takeWhile (· == 48)).length = n
  | [], 0, _, _ => rfl
  | [], _ + 1, h, _ => by have := h 0 (Nat.succ_pos _); cases this
  | c :: L, 0, _, h => by
    have hc : ¬ c = 48 := fun e => h (by rw [e]; rfl)
    rw [List.takeWhile_cons_of_neg (by simpa using hc)]; rfl
  | c :: L, n + 1, h, h2 => by
    have hc : c = 48 := by have := h 0 (Nat.succ_pos _); injection this
    rw [List.takeWhile_cons_of_pos (by simpa using hc), List.length_cons, lead_length L n (fun i hi => h (i + 1) (by omega)) h2]
theorem noughts_less {l : List UInt8} {bit : Int} (h : bit < 0) : noughts l bit = 0 := if_pos h
theorem noughts_over {l : List UInt8} {bit : Int} (h : 8 * (l.length : Int) ≤ bit) : noughts l bit = 0 := by
  unfold noughts
  rw [if_neg (by omega), List.drop_eq_nil_of_le (by rw [showL_length]; omega)]
  rfl
theorem noughts_are {l : List UInt8} {p n : Nat} (h : ∀ i, i < n → (showL l)[p + i]? = some 48) (h2 : (showL l)[p + n]? ≠ some 48) : noughts l p = n := by
  unfold noughts
  rw [if_neg (by omega), Int.toNat_natCast]
  exact lead_length _ n (fun i hi => by rw [List.getElem?_drop]; exact h i hi) (by rw [List.getElem?_drop]; exact h2)

theorem tell_more (l : List UInt8) (p m n : Nat) (h : p + m + n ≤ 8 * l.length) : tell l p (m + n) = tell l p m * 2 ^ n + tell l (p + m) n := by
  have hl := showL_length l
  unfold tell
  rw [List.take_add, num_append, List.drop_drop]
  congr 3
  rw [List.length_take, List.length_drop]
  omega
theorem tell_byte (l : List UInt8) (j : Nat) (h : j < l.length) : tell l (8 * j) 8 = l[j].toNat := by
  have e := tell_bytes l j 1 (8 * j) 8 (by omega) (by omega) (by omega)
  rw [← e, List.drop_eq_getElem_cons h]
  have := l[j].toNat_lt
  show bfrom 0 [l[j]] / 2 ^ (8 * (j + 1) - 8 * j - 8) % 2 ^ 8 = _
  rw [show 8 * (j + 1) - 8 * j - 8 = 0 by omega]
  show (256 * 0 + l[j].toNat) / 2 ^ 0 % 2 ^ 8 = _
  omega
theorem tell_end (l : List UInt8) (p j n : Nat) (h : j < l.length) (h1 : 8 * j ≤ p) (h2 : p + n = 8 * (j + 1)) : tell l p n = l[j].toNat % 2 ^ n := by
  have e := tell_bytes l j 1 p n h1 (by omega) (by omega)
  rw [← e, List.drop_eq_getElem_cons h]
  show bfrom 0 [l[j]] / 2 ^ (8 * (j + 1) - p - n) % 2 ^ n = _
  rw [show 8 * (j + 1) - p - n = 0 by omega]
  show (256 * 0 + l[j].toNat) / 2 ^ 0 % 2 ^ n = _
  rw [Nat.pow_zero, Nat.div_one, Nat.mul_zero, Nat.zero_add]
/-- Noughts ahead of a number's first 1. -/
theorem noughts_lead (l : List UInt8) (p m k : Nat) (h : p + m ≤ 8 * l.length) (hk : k < m) (h1 : 2 ^ k ≤ tell l p m) (h2 : tell l p m < 2 ^ (k + 1)) : noughts l p = m - (k + 1) := by
  have e1 := tell_more l p (m - (k + 1)) (k + 1) (by omega)
  have e2 := tell_more l p (m - k) k (by omega)
  rw [show m - (k + 1) + (k + 1) = m by omega] at e1
  rw [show m - k + k = m by omega] at e2
  have l2 := tell_lt l (p + (m - k)) k
  have z1 : tell l p (m - (k + 1)) = 0 := by
    rcases Nat.eq_zero_or_pos (tell l p (m - (k + 1))) with h | h
    · exact h
    · have := Nat.mul_le_mul_right (2 ^ (k + 1)) h
      omega
  have z2 : tell l p (m - k) ≠ 0 := by
    intro h
    rw [h, Nat.zero_mul, Nat.zero_add] at e2
    omega
  have n1 := (tell_noughts l p _ (by omega)).1 z1
  have n2 := fun h => z2 ((tell_noughts l p _ (by omega)).2 h)
  refine noughts_are n1 fun h => n2 fun i hi => ?_
  rcases Nat.lt_or_ge i (m - (k + 1)) with h3 | h3
  · exact n1 i h3
  · rw [show i = m - (k + 1) by omega]; exact h
theorem noughts_all (l : List UInt8) (p m : Nat) (h : p + m = 8 * l.length) (h0 : tell l p m = 0) : noughts l p = m :=
  noughts_are ((tell_noughts l p m (by omega)).1 h0) (by rw [List.getElem?_eq_none (by rw [showL_length]; omega)]; exact fun h => by cases h)

/-- Does a sheet or the end begin at a byte? -/
def hit (l : List UInt8) (i : Nat) : Bool := (markAt l ((8 * i : Nat) : Int)).2 == 0 && ((markAt l ((8 * i : Nat) : Int)).1 == 0 || (markAt l ((8 * i : Nat) : Int)).1 == 31)
/-- What a search from a byte on finds. -/
def Finds (l : List UInt8) (start : Int) (a n : Int) (ok : Bool) : Prop :=
  (ok = true ∧ ∃ i : Nat, a = i ∧ start ≤ a ∧ hit l i = true ∧ n = (markAt l ((8 * i : Nat) : Int)).1 ∧ ∀ k : Nat, start ≤ k → k < i → hit l k = false)
  ∨ (ok = false ∧ a = 0 ∧ n = 0 ∧ ∀ k : Nat, start ≤ k → hit l k = false)
theorem Finds.one {l : List UInt8} {start a n a' n' : Int} {ok ok' : Bool} (h : Finds l start a n ok) (h' : Finds l start a' n' ok') : a = a' ∧ n = n' ∧ ok = ok' := by
  rcases h with ⟨rfl, i, rfl, h1, h2, rfl, h3⟩ | ⟨rfl, rfl, rfl, h3⟩
  · rcases h' with ⟨rfl, i', rfl, h1', h2', rfl, h3'⟩ | ⟨rfl, rfl, rfl, h3'⟩
    · have hi : i = i' := by
        rcases Nat.lt_trichotomy i i' with h | h | h
        · have := h3' i h1 h; rw [h2] at this; cases this
        · exact h
        · have := h3 i' h1' h; rw [h2'] at this; cases this
      subst hi
      exact ⟨rfl, rfl, rfl⟩
    · have := h3' i h1; rw [h2] at this; cases this
  · rcases h' with ⟨rfl, i', rfl, h1', h2', rfl, h3'⟩ | ⟨rfl, rfl, rfl, h3'⟩
    · have := h3 i' h1'; rw [h2'] at this; cases this
    · exact ⟨rfl, rfl, rfl⟩
/-- How a search from a byte on ends. -/
def FindsE (l : List UInt8) (start : Int) (e : Ending) : Prop := ∃ a n ok, e = .returned (.tuple #[.int .i64 a, .int .i64 n, .bool ok]) ∧ Finds l start a n ok
/-- Near the end no mark begins. -/
theorem hit_short {l : List UInt8} {i : Nat} (h : l.length < i + 3) : hit l i = false := by
  have : (markAt l ((8 * i : Nat) : Int)).2 ≠ 0 := by
    rcases Nat.lt_or_ge (8 * l.length) (8 * i) with h1 | h1
    · rw [mark_arg (.inr (by omega))]; decide
    · rw [mark_short h1 (by omega)]; decide
  unfold hit
  rw [beq_eq_false_iff_ne.2 this]
  rfl
/-- Where one of the first two bytes isn't 0 no mark begins. -/
theorem hit_byte {l : List UInt8} {i k : Nat} (hk : k < 2) (h : i + k < l.length) (h0 : l[i + k].toNat ≠ 0) : hit l i = false := by
  rcases Nat.lt_or_ge l.length (i + 3) with h1 | h1
  · exact hit_short h1
  have e := tell_more l (8 * i) 16 6 (by omega)
  have e1 := tell_more l (8 * i) 8 8 (by omega)
  rw [tell_byte l i (by omega), show 8 * i + 8 = 8 * (i + 1) by omega, tell_byte l (i + 1) (by omega)] at e1
  have hz : tell l (8 * i) 16 ≠ 0 := by
    show tell l (8 * i) (8 + 8) ≠ 0
    rw [e1]
    rcases (by omega : k = 0 ∨ k = 1) with rfl | rfl
    · simp only [Nat.add_zero] at h0
      omega
    · omega
  have : (markAt l ((8 * i : Nat) : Int)).2 ≠ 0 := by
    rw [mark_in (by omega), if_neg]
    · decide
    · intro h2
      have : tell l (8 * i) 22 = tell l (8 * i) (16 + 6) := rfl
      rw [this, e] at h2
      omega
  unfold hit
  rw [beq_eq_false_iff_ne.2 this]
  rfl

/-- How many digits a number of a byte has. -/
def lenOf (c : Nat) : Nat := if c = 0 then 0 else c.log2 + 1
theorem lenOf_most (c : Nat) (h : c < 256) : lenOf c ≤ 8 := by
  unfold lenOf
  split
  · omega
  · have := (Nat.log2_lt (n := c) (k := 8) (by omega)).2 h
    omega
theorem lenOf_power (c : Nat) (h : c ≠ 0) : ∃ k, lenOf c = k + 1 ∧ 2 ^ k ≤ c ∧ c < 2 ^ (k + 1) :=
  ⟨c.log2, if_neg h, Nat.log2_self_le h, Nat.lt_log2_self⟩
end Go.Proofs.Ytmmcmckadkgmmaa
