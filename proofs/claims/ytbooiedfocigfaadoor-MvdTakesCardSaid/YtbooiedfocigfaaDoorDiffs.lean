/- The rows of package mvd: the codes and lengths that its variables hold, and which row a difference has. Condition: the variables hold their tables. -/
import Derived.Test.YtbooiedfocigfaaDoorLaid
import Derived.Test.YtbooiedfocigfaaDoorDigits
import Derived.Test.YtbooiedfocigfaaDoorGtk
import Derived.WalkMore
import Derived.IntWalk
namespace Go.Proofs.YtbooiedfocigfaaDoor
open Go.RowKit Go.Lib

/-- The codes of the amounts, and how many digits each one has. -/
def codeZ : List Nat := [1, 1, 1, 1, 3, 5, 4, 3, 11, 10, 9, 17, 16, 15, 14, 13, 12, 11, 10, 9, 8, 7, 6, 5, 4, 7, 6, 5, 4, 3, 2, 3, 2]
def lenZ : List Nat := [1, 2, 3, 4, 6, 7, 7, 7, 9, 9, 9, 10, 10, 10, 10, 10, 10, 10, 10, 10, 10, 10, 10, 10, 10, 11, 11, 11, 11, 11, 11, 12, 12]
def codeAt (i : Nat) : Nat := codeZ[i]?.getD 0
def lenAt (i : Nat) : Nat := lenZ[i]?.getD 0
theorem amount_fits : ∀ i, i < 33 → 1 ≤ lenAt i ∧ lenAt i ≤ 12 ∧ codeAt i < 2 ^ lenAt i ∧ codeAt i ≤ 17 := by decide +kernel
/-- An amount's row. -/
def ampL (i : Nat) : List UInt8 := rowOf (codeAt i) (lenAt i)
/-- The number of a difference's row, and how many digits that has. -/
def codeOf (d : Int) : Nat := if d = 0 then 1 else if 0 < d then 2 * codeAt d.toNat else 2 * codeAt (-d).toNat + 1
def lenOf (d : Int) : Nat := if d = 0 then 1 else if 0 < d then lenAt d.toNat + 1 else lenAt (-d).toNat + 1
/-- The row of a difference; nothing, where it has none. -/
def diffAt (d : Int) : ByteArray := if -32 ≤ d ∧ d ≤ 31 then ⟨(rowOf (codeOf d) (lenOf d)).toArray⟩ else ⟨#[]⟩
theorem diffAt_out {d : Int} (h : d < -32 ∨ 31 < d) : diffAt d = ⟨#[]⟩ := by
  unfold diffAt
  rw [if_neg (by omega)]
theorem diffAt_in {d : Int} (h : -32 ≤ d ∧ d ≤ 31) : diffAt d = ⟨(rowOf (codeOf d) (lenOf d)).toArray⟩ := by
  unfold diffAt
  rw [if_pos h]
theorem diff_fits {d : Int} (h : -32 ≤ d ∧ d ≤ 31) : 1 ≤ lenOf d ∧ lenOf d ≤ 13 ∧ codeOf d < 2 ^ lenOf d ∧ codeOf d ≤ 35 := by
  have e : ∀ i : Nat, i < 64 → 1 ≤ lenOf ((i : Int) - 32) ∧ lenOf ((i : Int) - 32) ≤ 13 ∧ codeOf ((i : Int) - 32) < 2 ^ lenOf ((i : Int) - 32) ∧ codeOf ((i : Int) - 32) ≤ 35 := by decide +kernel
  have := e (d + 32).toNat (by omega)
  rwa [show (((d + 32).toNat : Nat) : Int) - 32 = d by omega] at this
theorem diffAt_some {d : Int} (h : -32 ≤ d ∧ d ≤ 31) : (diffAt d).data.toList.isEmpty = false := by
  rw [diffAt_in h]
  show (rowOf (codeOf d) (lenOf d)).isEmpty = false
  have := diff_fits h
  cases hl : rowOf (codeOf d) (lenOf d) with
  | nil =>
    have e := rowOf_length (codeOf d) (lenOf d)
    rw [hl] at e
    simp at e
    omega
  | cons a l => rfl

/-! ### The tables -/
/-- The variables hold their tables. -/
def HasMvd (w : World) : Prop := ∀ i, i < 33 → w.cell? ⟨1, i, none⟩ = some (.int .i64 (codeAt i : Nat)) ∧ w.cell? ⟨0, i, none⟩ = some (.int .i64 (lenAt i : Nat))
theorem HasMvd.lt {w : World} (h : HasMvd w) : 1 < w.heap.size ∧ 0 < w.heap.size :=
  ⟨World.block_lt_of_cell? w ⟨1, 0, none⟩ (h 0 (by decide)).1, World.block_lt_of_cell? w ⟨0, 0, none⟩ (h 0 (by decide)).2⟩
theorem HasMvd.below {w w' : World} (h : HasMvd w) (hb : Below w.heap.size w w') : HasMvd w' := fun i hi =>
  ⟨(hb.cell (p := ⟨1, i, none⟩) h.lt.1).trans (h i hi).1, (hb.cell (p := ⟨0, i, none⟩) h.lt.2).trans (h i hi).2⟩
theorem HasMvd.grown {w w' : World} {b : Nat} (h : HasMvd w) (hg : w.grownBy w' (some b)) (h1 : 1 ≠ b) (h2 : 0 ≠ b) : HasMvd w' := fun i hi =>
  ⟨(World.cell?_of_block (a := ⟨1, i, none⟩) (hg.block _ h.lt.1 (by simpa using h1))).trans (h i hi).1, (World.cell?_of_block (a := ⟨0, i, none⟩) (hg.block _ h.lt.2 (by simpa using h2))).trans (h i hi).2⟩

/-! ### Which row a difference has -/
theorem or_one (y : Nat) (hy : y < 4294967296) : bits .or .i64 ((y : Int) * 2) 1 = ((2 * y + 1 : Nat) : Int) := by
  have hor := Nat.two_pow_add_eq_or_of_lt (i := 1) (b := 1) (by omega) y
  have e1 : ((y : Int) * 2) = ((2 * y : Nat) : Int) := by omega
  rw [e1]
  show IntKind.i64.wrap ((BitVec.ofInt 64 ((2 * y : Nat) : Int) ||| BitVec.ofInt 64 ((1 : Nat) : Int)).toNat : Int) = _
  rw [BitVec.ofInt_natCast, BitVec.ofInt_natCast, BitVec.toNat_or, BitVec.toNat_ofNat, BitVec.toNat_ofNat, Nat.mod_eq_of_lt (by omega), Nat.mod_eq_of_lt (by omega)]
  have e2 : 2 * y ||| 1 = 2 * y + 1 := by
    have e : (2 : Nat) ^ 1 = 2 := rfl
    rw [e] at hor
    exact hor.symm
  rw [e2, IntKind.wrap_i64]
  omega
theorem ret_two {a b c d : Int} {k k' : IntKind} (h : a = c) (h' : b = d) : Ending.returned (.tuple #[.int k a, .int k' b]) = .returned (.tuple #[.int k c, .int k' d]) := by rw [h, h']
set_option maxHeartbeats 1000000 in
theorem coded_code (d : Int) (h : -32 ≤ d ∧ d ≤ 31) (w : World) (hp : HasMvd w) : Calls Tryd.prog 17 #[.int .i64 d] w fun e w' => e = .returned (.tuple #[.int .i64 (codeOf d : Nat), .int .i64 (lenOf d : Nat)]) ∧ Below w.heap.size w w' := by
  by_cases h0 : d = 0
  · subst h0
    have c0 : w.cell? ⟨1, 0, none⟩ = some (.int .i64 1) := (hp 0 (by decide)).1
    have c1 : w.cell? ⟨0, 0, none⟩ = some (.int .i64 1) := (hp 0 (by decide)).2
    go_enter Tryd.func17, Tryd.ntmps17
    go_wp2
    go_region
    go_wp2
    go_ret2
    exact ⟨rfl, (Below.refl _ w).drew⟩
  by_cases h1 : 0 < d
  · have F1 := Lib.hid (show codeOf d = 2 * codeAt d.toNat by unfold codeOf; rw [if_neg h0, if_pos h1])
    have F2 := Lib.hid (show lenOf d = lenAt d.toNat + 1 by unfold lenOf; rw [if_neg h0, if_pos h1])
    rw [F1.out, F2.out]
    obtain ⟨a, ha⟩ : ∃ a : Nat, d = a := ⟨d.toNat, by omega⟩
    subst ha
    rw [Int.toNat_natCast]
    have ha33 : a < 33 := by omega
    obtain ⟨c0, c1⟩ := hp a ha33
    obtain ⟨b0, b1, _, b3⟩ := amount_fits a ha33
    have t0 : 0 < a := by omega
    generalize codeAt a = x at c0 b3 ⊢
    generalize lenAt a = y at c1 b0 b1 ⊢
    clear F1 F2 h0 h1
    go_enter Tryd.func17, Tryd.ntmps17
    go_wp2
    go_region
    go_wp2
    go_ret2
    exact ⟨ret_two (by omega) (by omega), (Below.refl _ w).drew⟩
  · have F1 := Lib.hid (show codeOf d = 2 * codeAt (-d).toNat + 1 by unfold codeOf; rw [if_neg h0, if_neg h1])
    have F2 := Lib.hid (show lenOf d = lenAt (-d).toNat + 1 by unfold lenOf; rw [if_neg h0, if_neg h1])
    rw [F1.out, F2.out]
    obtain ⟨a, ha⟩ : ∃ a : Nat, (-d).toNat = a := ⟨_, rfl⟩
    have t2 : -d = (a : Int) := by omega
    rw [ha]
    have ha33 : a < 33 := by omega
    obtain ⟨c0, c1⟩ := hp a ha33
    obtain ⟨b0, b1, _, b3⟩ := amount_fits a ha33
    have t0 : decide (0 < d) = false := by simpa using h1
    have t1 : decide (d < 0) = true := by simp; omega
    generalize codeAt a = x at c0 b3 ⊢
    generalize lenAt a = y at c1 b0 b1 ⊢
    have O := Lib.hid (or_one x (by omega))
    clear F1 F2 h0 h1 ha
    go_enter Tryd.func17, Tryd.ntmps17
    go_wp2
    go_region
    go_wp2
    go_ret2
    exact ⟨ret_two O.out (by omega), (Below.refl _ w).drew⟩
theorem drow_code (d : Int) (w : World) (hp : HasMvd w) : Calls Tryd.prog 6 #[.int .i64 d] w fun e w' => e = .returned (.tuple #[.string (diffAt d), .bool (!(diffAt d).data.toList.isEmpty)]) ∧ Below w.heap.size w w' := by
  by_cases h0 : d < -32
  · have F := Lib.hid (diffAt_out (d := d) (.inl h0))
    have t0 : decide (d < -32) = true := by simpa using h0
    clear h0
    rw [F.out]
    go_enter Tryd.func6, Tryd.ntmps6
    go_wp2
    go_ret2
    exact ⟨rfl, Below.refl _ _⟩
  by_cases h1 : 31 < d
  · have F := Lib.hid (diffAt_out (d := d) (.inr h1))
    have t0 : decide (d < -32) = false := by simpa using h0
    have t1 : decide (31 < d) = true := by simpa using h1
    clear h0 h1
    rw [F.out]
    go_enter Tryd.func6, Tryd.ntmps6
    go_wp2
    go_ret2
    exact ⟨rfl, Below.refl _ _⟩
  have hr : -32 ≤ d ∧ d ≤ 31 := by omega
  have t0 : decide (d < -32) = false := by simpa using h0
  have t1 : decide (31 < d) = false := by simpa using h1
  have hcon := fun x hx => coded_code d hr x hx
  obtain ⟨b0, b1, b2, b3⟩ := diff_fits hr
  have G := Lib.hid (show (!(diffAt d).data.toList.isEmpty) = true by rw [diffAt_some hr]; rfl)
  have F := Lib.hid (diffAt_in hr)
  rw [G.out, F.out]
  generalize codeOf d = x at hcon b2 b3 ⊢
  generalize lenOf d = y at hcon b0 b1 b2 ⊢
  have hrow := fun w => row_code (x : Int) (y : Int) w (by omega) (by
    unfold fitsIn
    rw [decide_eq_true_iff]
    refine ⟨by omega, by omega, by omega, ?_⟩
    rw [Int.toNat_natCast]
    exact_mod_cast b2)
  simp only [Int.toNat_natCast] at hrow
  clear h0 h1 F G b2
  go_enter Tryd.func6, Tryd.ntmps6
  go_wp2_with fail
  refine (hcon _ hp).mono ?_
  rintro e w1 ⟨rfl, hb1⟩
  have hz1 := hb1.size
  go_wp2_with fail
  refine (hrow _).mono ?_
  rintro e w2 ⟨rfl, hb⟩
  go_wp2
  go_ret2
  exact ⟨rfl, hb1.trans (hb.mono hz1)⟩
end Go.Proofs.YtbooiedfocigfaaDoor
