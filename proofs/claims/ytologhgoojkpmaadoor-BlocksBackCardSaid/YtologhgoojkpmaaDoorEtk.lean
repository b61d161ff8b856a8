/- What stands at the head of some bits by package tcoef's rows, in plain words. No condition. -/
import Derived.Test.YtologhgoojkpmaaDoorEvs
namespace Go.Proofs.YtologhgoojkpmaaDoor

/-- The rows of all places, the escape behind them. -/
def rowT (i : Nat) : ByteArray := ⟨(rowOf (codeT i) (lenT i)).toArray⟩
def cellT (i : Nat) : ByteArray × Int := (rowT i, i)
def allT : List (ByteArray × Int) := (List.range 103).map cellT
def rowsT : List (List UInt8) := allT.map rowC
theorem allT_free : free rowsT := by unfold free; decide +kernel
theorem cellT_all {i : Nat} (h : i < 103) : cellT i ∈ allT := List.mem_map_of_mem (List.mem_range.2 h)
theorem rowC_T (i : Nat) : rowC (cellT i) = rowOf (codeT i) (lenT i) := rfl
theorem rowC_len (i : Nat) : (rowC (cellT i)).length = lenT i := rowOf_length _ _
theorem rowT_mem {r : List UInt8} (h : r ∈ rowsT) : ∃ i, i < 103 ∧ r = rowC (cellT i) := by
  obtain ⟨x, hx, rfl⟩ := List.mem_map.1 h
  obtain ⟨i, hi, rfl⟩ := List.mem_map.1 hx
  exact ⟨i, List.mem_range.1 hi, rfl⟩
theorem cellT_row {i : Nat} (h : i < 103) : rowC (cellT i) ∈ rowsT := List.mem_map_of_mem (cellT_all h)

/-! ### Which place is found by some digits -/
/-- Does a place's code begin with n digits that tell v, or they with it? -/
def begT (v n i : Nat) : Bool := codeT i / 2 ^ (lenT i - n) == v / 2 ^ (n - lenT i)
theorem begT_pre {q : List UInt8} (hq : isRow q = true) {i : Nat} (hi : i < 103) : begT (num q) q.length i = (q.isPrefixOf (rowC (cellT i)) || (rowC (cellT i)).isPrefixOf q) := by
  obtain ⟨b0, b1, b2, _⟩ := code_fits i hi
  rw [rowC_T]
  unfold begT
  by_cases h : q.length ≤ lenT i
  · rw [show q.length - lenT i = 0 by omega, Nat.pow_zero, Nat.div_one, head_num hq b2, decide_eq_true h, Bool.true_and]
    cases hp : (rowOf (codeT i) (lenT i)).isPrefixOf q with
    | false => rw [Bool.or_false]
    | true =>
      have hl := pre_length hp
      rw [rowOf_length] at hl
      have e : q = rowOf (codeT i) (lenT i) := by
        have := pre_take.1 hp
        rw [rowOf_length, List.take_of_length_le (by omega)] at this
        exact this
      have hn : num q = codeT i := by rw [e, num_rowOf, Nat.mod_eq_of_lt b2]
      rw [hn, show lenT i - q.length = 0 by omega, Nat.pow_zero, Nat.div_one, Bool.or_true]
      simp
  · have hno : q.isPrefixOf (rowOf (codeT i) (lenT i)) = false := by
      cases hp : q.isPrefixOf (rowOf (codeT i) (lenT i)) with
      | false => rfl
      | true =>
        have := pre_length hp
        rw [rowOf_length] at this
        exact absurd this h
    rw [show lenT i - q.length = 0 by omega, Nat.pow_zero, Nat.div_one, hno, Bool.false_or]
    have hsplit : num q = num (q.take (lenT i)) * 2 ^ (q.length - lenT i) + num (q.drop (lenT i)) := by
      rw [← List.length_drop, ← num_append, List.take_append_drop]
    have hlow : num (q.drop (lenT i)) < 2 ^ (q.length - lenT i) := by
      have := num_lt (q.drop (lenT i)) (isRow_drop _ _ hq) (q.drop (lenT i)).length (Nat.le_refl _)
      rw [List.take_of_length_le (Nat.le_refl _), List.length_drop] at this
      exact this
    have hdiv : num q / 2 ^ (q.length - lenT i) = num (q.take (lenT i)) := by
      rw [hsplit, Nat.mul_comm, Nat.mul_add_div (Nat.two_pow_pos _), Nat.div_eq_of_lt hlow, Nat.add_zero]
    rw [hdiv, Bool.eq_iff_iff, beq_iff_eq, pre_take, rowOf_length]
    constructor
    · intro e
      have h2 := row_num (q.take (lenT i)) (isRow_take _ _ hq)
      rw [List.length_take, Nat.min_eq_left (by omega), ← e] at h2
      exact h2.symm
    · intro e
      rw [e, num_rowOf, Nat.mod_eq_of_lt b2]

/-! ### Digit by digit -/
theorem tk_begun {rows : List (List UInt8)} (hf : free rows) {b r : List UInt8} (hr : r ∈ rows) (hp : b.isPrefixOf r = true) (hl : b.length < r.length) : ∀ {k m : Nat}, m ≤ b.length + 1 → b.length + 2 ≤ m + k → tk rows b k m = (2, 0)
  | 0, m, h1, h2 => by omega
  | k + 1, m, h1, h2 => by
    by_cases hs : b.length < m
    · exact tk_short hs
    · have hpm : (b.take m).isPrefixOf r = true := pre_trans (take_pre b m) hp
      rw [tk_more (by omega) (fun hm => ?_) hr hpm]
      · exact tk_begun hf hr hp hl (by omega) (by omega)
      · have e := congrArg List.length (free_eq hf hm hr hpm)
        rw [List.length_take] at e
        omega
theorem tk_never {rows : List (List UInt8)} {b : List UInt8} {n : Nat} (hn : n ≤ b.length) (h : ∀ r ∈ rows, (b.take n).isPrefixOf r = false ∧ r.isPrefixOf (b.take n) = false) : ∀ {k m : Nat}, m ≤ n → tk rows b k m = (3, 0)
  | 0, _, _ => rfl
  | k + 1, m, hm => by
    unfold tk
    rw [if_neg (by omega), if_neg]
    · split
      · rename_i hany
        obtain ⟨r, hr, hp⟩ := List.any_eq_true.1 hany
        by_cases e : m = n
        · subst e
          rw [(h r hr).1] at hp
          cases hp
        · exact tk_never hn h (by omega)
      · rfl
    · intro hmem
      have := (h _ hmem).2
      rw [show (b.take m).isPrefixOf (b.take n) = true by rw [List.isPrefixOf_iff_prefix]; exact (List.take_prefix_take_left hm)] at this
      cases this
/-- What the first place that fits tells. -/
theorem gtk_found {b : List UInt8} {n i : Nat} (hn : n = min 12 b.length) (hi : i < 103) (h : begT (num (b.take n)) n i = true) (hb : isRow b = true) (hl : lenT i ≤ n) : gtk allT b = ((i : Int), 0, lenT i) ∧ lenT i ≤ b.length := by
  have hql : (b.take n).length = n := by rw [List.length_take]; omega
  have h2 := begT_pre (isRow_take b n hb) hi
  rw [hql, h] at h2
  have hp : (rowC (cellT i)).isPrefixOf (b.take n) = true := by
    rcases (Bool.or_eq_true _ _).mp h2.symm with h3 | h3
    · have := pre_length h3
      rw [hql, rowC_len] at this
      have e : b.take n = rowC (cellT i) := by
        have := pre_take.1 h3
        rw [List.take_of_length_le (by rw [hql, rowC_len]; omega)] at this
        exact this.symm
      rw [e, pre_refl]
    · exact h3
  obtain ⟨b0, b1, _, _⟩ := code_fits i hi
  have := gtk_row allT_free (cellT_all hi) (by rw [rowC_len]; exact b0) (by rw [rowC_len]; omega) (pre_trans hp (take_pre b n))
  rw [rowC_len] at this
  exact ⟨this, by omega⟩
theorem gtk_short {b : List UInt8} {n i : Nat} (hn : n = min 12 b.length) (hi : i < 103) (h : begT (num (b.take n)) n i = true) (hb : isRow b = true) (hl : n < lenT i) : gtk allT b = (0, 2, 0) := by
  obtain ⟨b0, b1, _, _⟩ := code_fits i hi
  have hnb : n = b.length := by omega
  have hq : b.take n = b := List.take_of_length_le (by omega)
  have h2 := begT_pre hb hi
  rw [hq, hnb] at h
  rw [h] at h2
  refine gtk_not (n := 0) (tk_begun allT_free (cellT_row hi) (b := b) ?_ (by rw [rowC_len]; omega) (by omega) (by omega)) (by decide)
  rcases (Bool.or_eq_true _ _).mp h2.symm with h3 | h3
  · exact h3
  · have := pre_length h3
    rw [rowC_len] at this
    omega
theorem gtk_never {b : List UInt8} {n : Nat} (hn : n = min 12 b.length) (h : ∀ i, i < 103 → begT (num (b.take n)) n i = false) (hb : isRow b = true) : gtk allT b = (0, 3, 0) := by
  have hql : (b.take n).length = n := by rw [List.length_take]; omega
  have hall : ∀ r ∈ rowsT, (b.take n).isPrefixOf r = false ∧ r.isPrefixOf (b.take n) = false := by
    intro r hr
    obtain ⟨i, hi, rfl⟩ := rowT_mem hr
    have h2 := begT_pre (isRow_take b n hb) hi
    rw [hql, h i hi] at h2
    exact (Bool.or_eq_false_iff).mp h2.symm
  have h1 : 1 ≤ n := by
    rcases Nat.eq_zero_or_pos n with h0 | h0
    · have := (hall _ (cellT_row (i := 0) (by decide))).1
      rw [h0, List.take_zero] at this
      simp at this
    · exact h0
  exact gtk_not (n := 0) (tk_never (by omega) hall h1) (by decide)

/-! ### The events -/
def evZ : List (Bool × Nat × Nat) := (List.range 27).flatMap (fun r => (List.range (amtT false r)).map fun i => (false, r, i + 1)) ++ (List.range 41).flatMap (fun r => (List.range (amtT true r)).map fun i => (true, r, i + 1))
/-- The event of a place, and its amount. -/
def evT (p : Nat) : Bool × Nat × Nat := evZ[p]?.getD (false, 0, 0)
theorem evT_ok : ∀ p, p < 102 → (inT (evT p).1 (evT p).2.1 (evT p).2.2 = true ∧ plT (evT p).1 (evT p).2.1 (evT p).2.2 = p ∧ (evT p).2.1 < 41) ∧ (evT p).1 = decide (58 ≤ p) ∧ 1 ≤ (evT p).2.2 ∧ (evT p).2.2 ≤ 12 := by decide +kernel
theorem plT_small : ∀ last : Bool, ∀ run, run < 64 → ∀ amt, amt < 13 → inT last run amt = true → evT (plT last run amt) = (last, run, amt) := by decide +kernel
theorem inT_iff {last : Bool} {run amt : Nat} : inT last run amt = true ↔ 1 ≤ amt ∧ amt ≤ amtT last run := by
  unfold inT
  rw [Bool.and_eq_true, decide_eq_true_iff, decide_eq_true_iff]
theorem plT_ev {last : Bool} {run amt : Nat} (hr : run < 64) (h : inT last run amt = true) : evT (plT last run amt) = (last, run, amt) := by
  have := (inT_iff.1 h).2
  have := amtT_most last run
  exact plT_small last run hr amt (by omega) h
/-- The event that an escape's digits tell. -/
def escT (v : Nat) : Bool × Nat × Int := (v / 16384 % 2 == 1, v / 256 % 64, if 127 < v % 256 then ((v % 256 : Nat) : Int) - 256 else ((v % 256 : Nat) : Int))
def signT (x : Bool × Nat × Nat) (s : Bool) : Bool × Nat × Int := (x.1, x.2.1, if s then -(x.2.2 : Int) else (x.2.2 : Int))
/-- What stands at the head of some bits: the event, what is wrong, how many digits. -/
def etk (b : List UInt8) : (Bool × Nat × Int) × Int × Nat :=
  if (gtk allT b).2.1 ≠ 0 then ((false, 0, 0), (gtk allT b).2.1, 0) else
  if (gtk allT b).1.toNat = 102 then
    if b.length < 22 then ((false, 0, 0), 2, 0) else
    if rightT (escT (num (b.take 22))).2.1 (escT (num (b.take 22))).2.2 && !inT (escT (num (b.take 22))).1 (escT (num (b.take 22))).2.1 (escT (num (b.take 22))).2.2.natAbs then (escT (num (b.take 22)), 0, 22) else ((false, 0, 0), 7, 0)
  else
    if b.length < lenT (gtk allT b).1.toNat + 1 then ((false, 0, 0), 2, 0) else
    (signT (evT (gtk allT b).1.toNat) (num (b.take (lenT (gtk allT b).1.toNat + 1)) % 2 == 1), 0, lenT (gtk allT b).1.toNat + 1)
theorem etk_not {b : List UInt8} {f : Int} (h : gtk allT b = (0, f, 0)) (hf : f ≠ 0) : etk b = ((false, 0, 0), f, 0) := by
  unfold etk
  rw [h, if_pos hf]
theorem etk_few {b : List UInt8} {i n : Nat} (h : gtk allT b = ((i : Int), 0, n)) (hl : b.length < if i = 102 then 22 else lenT i + 1) : etk b = ((false, 0, 0), 2, 0) := by
  unfold etk
  rw [h, if_neg (fun h => h rfl), Int.toNat_natCast]
  by_cases hi : i = 102
  · rw [if_pos hi] at hl
    rw [if_pos hi, if_pos hl]
  · rw [if_neg hi] at hl
    rw [if_neg hi, if_pos hl]
theorem etk_table {b : List UInt8} {i n : Nat} (h : gtk allT b = ((i : Int), 0, n)) (hi : i ≠ 102) (hl : lenT i + 1 ≤ b.length) : etk b = (signT (evT i) (num (b.take (lenT i + 1)) % 2 == 1), 0, lenT i + 1) := by
  unfold etk
  rw [h, if_neg (fun h => h rfl), Int.toNat_natCast, if_neg hi, if_neg (by omega)]
theorem etk_escape {b : List UInt8} {n : Nat} (h : gtk allT b = ((102 : Int), 0, n)) (hl : 22 ≤ b.length) : etk b = if rightT (escT (num (b.take 22))).2.1 (escT (num (b.take 22))).2.2 && !inT (escT (num (b.take 22))).1 (escT (num (b.take 22))).2.1 (escT (num (b.take 22))).2.2.natAbs then (escT (num (b.take 22)), 0, 22) else ((false, 0, 0), 7, 0) := by
  unfold etk
  rw [h, if_neg (fun h => h rfl), if_pos (show ((102 : Int), (0 : Int), n).1.toNat = 102 from rfl), if_neg (by omega)]
theorem escT_range (v : Nat) : (escT v).2.1 < 64 ∧ -128 ≤ (escT v).2.2 ∧ (escT v).2.2 ≤ 127 := by
  unfold escT
  refine ⟨Nat.mod_lt _ (by decide), ?_⟩
  show -128 ≤ (if 127 < v % 256 then ((v % 256 : Nat) : Int) - 256 else ((v % 256 : Nat) : Int)) ∧ (if 127 < v % 256 then ((v % 256 : Nat) : Int) - 256 else ((v % 256 : Nat) : Int)) ≤ 127
  split <;> omega
end Go.Proofs.YtologhgoojkpmaaDoor
