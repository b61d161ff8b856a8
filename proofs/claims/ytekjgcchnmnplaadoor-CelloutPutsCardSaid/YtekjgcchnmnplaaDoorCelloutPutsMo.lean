/- Texts that CelloutPuts's proof stands on, part 15 of 37. No condition of its own. -/
import Derived.Test.YtekjgcchnmnplaaDoorCelloutPutsMc
import Derived.Test.YtekjgcchnmnplaaDoorCelloutPutsMi
import Derived.Test.YtekjgcchnmnplaaDoorCelloutPutsMk
import Derived.Test.YtekjgcchnmnplaaDoorCelloutPutsMn
import Derived.WalkMore
import Derived.IntWalk
import Derived.Test.YtekjgcchnmnplaaDoorRows
namespace Go.Proofs.YtekjgcchnmnplaaDoor
open Go.RowKit Go.Lib
def codeZ : List Nat := [1, 1, 1, 1, 3, 5, 4, 3, 11, 10, 9, 17, 16, 15, 14, 13, 12, 11, 10, 9, 8, 7, 6, 5, 4, 7, 6, 5, 4, 3, 2, 3, 2]
def lenZ : List Nat := [1, 2, 3, 4, 6, 7, 7, 7, 9, 9, 9, 10, 10, 10, 10, 10, 10, 10, 10, 10, 10, 10, 10, 10, 10, 11, 11, 11, 11, 11, 11, 12, 12]
def codeAt (i : Nat) : Nat := codeZ[i]?.getD 0
def lenAt (i : Nat) : Nat := lenZ[i]?.getD 0
theorem amount_fits : ∀ i, i < 33 → 1 ≤ lenAt i ∧ lenAt i ≤ 12 ∧ codeAt i < 2 ^ lenAt i ∧ codeAt i ≤ 17 := by decide +kernel
def ampL (i : Nat) : List UInt8 := rowOf (codeAt i) (lenAt i)
def codeOf (d : Int) : Nat := if d = 0 then 1 else if 0 < d then 2 * codeAt d.toNat else 2 * codeAt (-d).toNat + 1
def lenOf (d : Int) : Nat := if d = 0 then 1 else if 0 < d then lenAt d.toNat + 1 else lenAt (-d).toNat + 1
def diffAt (d : Int) : ByteArray := if -32 ≤ d ∧ d ≤ 31 then ⟨(rowOf (codeOf d) (lenOf d)).toArray⟩ else ⟨#[]⟩
theorem diffAt_out {d : Int} (h : d < -32 ∨ 31 < d) : diffAt d = ⟨#[]⟩ := by
 unfold diffAt
 rw [if_neg (by omega)]
theorem diffAt_in {d : Int} (h : -32 ≤ d ∧ d ≤ 31) : diffAt d = ⟨(rowOf (codeOf d) (lenOf d)).toArray⟩ := by
 unfold diffAt
 rw [if_pos h]
theorem diff_fits {d : Int} (h : -32 ≤ d ∧ d ≤ 31) : 1 ≤ lenOf d ∧ lenOf d ≤ 13 ∧ codeOf d < 2 ^ lenOf d ∧ codeOf d ≤ 35 := by
 have e : ∀ i : Nat, i < 64 → 1 ≤ lenOf ((i : Int) - 32) ∧ lenOf ((i : Int) - 32) ≤ 13 ∧ codeOf ((i : Int) - 32) < 2 ^ lenOf ((i : Int) - 32) ∧ codeOf ((i : Int) - 32) ≤ 35 := by decide +kernel
 have := e (d + 32).toNat (by omega)
 rwa [show (((d + 32).toNat : Nat) : Int) - 32 = d by omega] at this
theorem diffAt_some {d : Int} (h : -32 ≤ d ∧ d ≤ 31) : (diffAt d).data.toList.isEmpty = false := by
 rw [diffAt_in h]
 show (rowOf (codeOf d) (lenOf d)).isEmpty = false
 have := diff_fits h
 cases hl : rowOf (codeOf d) (lenOf d) with
 | nil =>
  have e := rowOf_length (codeOf d) (lenOf d)
  rw [hl] at e
  simp at e
  omega
 | cons a l => rfl
def HasMvd (w : World) : Prop := ∀ i, i < 33 → w.cell? ⟨2, i, none⟩ = some (.int .i64 (codeAt i : Nat)) ∧ w.cell? ⟨3, i, none⟩ = some (.int .i64 (lenAt i : Nat))
theorem HasMvd.lt {w : World} (h : HasMvd w) : 2 < w.heap.size ∧ 3 < w.heap.size :=
 ⟨World.block_lt_of_cell? w ⟨2, 0, none⟩ (h 0 (by decide)).1, World.block_lt_of_cell? w ⟨3, 0, none⟩ (h 0 (by decide)).2⟩
theorem HasMvd.below {w w' : World} (h : HasMvd w) (hb : Below w.heap.size w w') : HasMvd w' := fun i hi =>
 ⟨(hb.cell (p := ⟨2, i, none⟩) h.lt.1).trans (h i hi).1, (hb.cell (p := ⟨3, i, none⟩) h.lt.2).trans (h i hi).2⟩
theorem HasMvd.grown {w w' : World} {b : Nat} (h : HasMvd w) (hg : w.grownBy w' (some b)) (h1 : 2 ≠ b) (h2 : 3 ≠ b) : HasMvd w' := fun i hi =>
 ⟨(World.cell?_of_block (a := ⟨2, i, none⟩) (hg.block _ h.lt.1 (by simpa using h1))).trans (h i hi).1, (World.cell?_of_block (a := ⟨3, i, none⟩) (hg.block _ h.lt.2 (by simpa using h2))).trans (h i hi).2⟩
theorem or_one (y : Nat) (hy : y < 4294967296) : bits .or .i64 ((y : Int) * 2) 1 = ((2 * y + 1 : Nat) : Int) := by
 have hor := Nat.two_pow_add_eq_or_of_lt (i := 1) (b := 1) (by omega) y
 have e1 : ((y : Int) * 2) = ((2 * y : Nat) : Int) := by omega
 rw [e1]
 show IntKind.i64.wrap ((BitVec.ofInt 64 ((2 * y : Nat) : Int) ||| BitVec.ofInt 64 ((1 : Nat) : Int)).toNat : Int) = _
 rw [BitVec.ofInt_natCast, BitVec.ofInt_natCast, BitVec.toNat_or, BitVec.toNat_ofNat, BitVec.toNat_ofNat, Nat.mod_eq_of_lt (by omega), Nat.mod_eq_of_lt (by omega)]
 have e2 : 2 * y ||| 1 = 2 * y + 1 := by
  have e : (2 : Nat) ^ 1 = 2 := rfl
  rw [e] at hor
  exact hor.symm
 rw [e2, IntKind.wrap_i64]
 omega
theorem ret_two {a b c d : Int} {k k' : IntKind} (h : a = c) (h' : b = d) : Ending.returned (.tuple #[.int k a, .int k' b]) = .returned (.tuple #[.int k c, .int k' d]) := by rw [h, h']
set_option maxHeartbeats 1000000 in
theorem coded_code (d : Int) (h : -32 ≤ d ∧ d ≤ 31) (w : World) (hp : HasMvd w) : Calls Tryd.prog 62 #[.int .i64 d] w fun e w' => e = .returned (.tuple #[.int .i64 (codeOf d : Nat), .int .i64 (lenOf d : Nat)]) ∧ Below w.heap.size w w' := by
 by_cases h0 : d = 0
 ·subst h0
  have c0 : w.cell? ⟨2, 0, none⟩ = some (.int .i64 1) := (hp 0 (by decide)).1
  have c1 : w.cell? ⟨3, 0, none⟩ = some (.int .i64 1) := (hp 0 (by decide)).2
  go_enter Tryd.func62, Tryd.ntmps62
  go_wp2
  go_region
  go_wp2
  go_ret2
  exact ⟨rfl, (Below.refl _ w).drew⟩
 by_cases h1 : 0 < d
 ·have F1 := Lib.hid (show codeOf d = 2 * codeAt d.toNat by unfold codeOf; rw [if_neg h0, if_pos h1])
  have F2 := Lib.hid (show lenOf d = lenAt d.toNat + 1 by unfold lenOf; rw [if_neg h0, if_pos h1])
  rw [F1.out, F2.out]
  obtain ⟨a, ha⟩ : ∃ a : Nat, d = a := ⟨d.toNat, by omega⟩
  subst ha
  rw [Int.toNat_natCast]
  have ha33 : a < 33 := by omega
  obtain ⟨c0, c1⟩ := hp a ha33
  obtain ⟨b0, b1, _, b3⟩ := amount_fits a ha33
  have t0 : 0 < a := by omega
  generalize codeAt a = x at c0 b3 ⊢
  generalize lenAt a = y at c1 b0 b1 ⊢
  clear F1 F2 h0 h1
  go_enter Tryd.func62, Tryd.ntmps62
  go_wp2
  go_region
  go_wp2
  go_ret2
  exact ⟨ret_two (by omega) (by omega), (Below.refl _ w).drew⟩
 ·have F1 := Lib.hid (show codeOf d = 2 * codeAt (-d).toNat + 1 by unfold codeOf; rw [if_neg h0, if_neg h1])
  have F2 := Lib.hid (show lenOf d = lenAt (-d).toNat + 1 by unfold lenOf; rw [if_neg h0, if_neg h1])
  rw [F1.out, F2.out]
  obtain ⟨a, ha⟩ : ∃ a : Nat, (-d).toNat = a := ⟨_, rfl⟩
  have t2 : -d = (a : Int) := by omega
  rw [ha]
  have ha33 : a < 33 := by omega
  obtain ⟨c0, c1⟩ := hp a ha33
  obtain ⟨b0, b1, _, b3⟩ := amount_fits a ha33
  have t0 : decide (0 < d) = false := by simpa using h1
  have t1 : decide (d < 0) = true := by simp; omega
  generalize codeAt a = x at c0 b3 ⊢
  generalize lenAt a = y at c1 b0 b1 ⊢
  have O := Lib.hid (or_one x (by omega))
  clear F1 F2 h0 h1 ha
  go_enter Tryd.func62, Tryd.ntmps62
  go_wp2
  go_region
  go_wp2
  go_ret2
  exact ⟨ret_two O.out (by omega), (Below.refl _ w).drew⟩
theorem drow_code (d : Int) (w : World) (hp : HasMvd w) : Calls Tryd.prog 44 #[.int .i64 d] w fun e w' => e = .returned (.tuple #[.string (diffAt d), .bool (!(diffAt d).data.toList.isEmpty)]) ∧ Below w.heap.size w w' := by
 by_cases h0 : d < -32
 ·have F := Lib.hid (diffAt_out (d := d) (.inl h0))
  have t0 : decide (d < -32) = true := by simpa using h0
  clear h0
  rw [F.out]
  go_enter Tryd.func44, Tryd.ntmps44
  go_wp2
  go_ret2
  exact ⟨rfl, Below.refl _ _⟩
 by_cases h1 : 31 < d
 ·have F := Lib.hid (diffAt_out (d := d) (.inr h1))
  have t0 : decide (d < -32) = false := by simpa using h0
  have t1 : decide (31 < d) = true := by simpa using h1
  clear h0 h1
  rw [F.out]
  go_enter Tryd.func44, Tryd.ntmps44
  go_wp2
  go_ret2
  exact ⟨rfl, Below.refl _ _⟩
 have hr : -32 ≤ d ∧ d ≤ 31 := by omega
 have t0 : decide (d < -32) = false := by simpa using h0
 have t1 : decide (31 < d) = false := by simpa using h1
 have hcon := fun x hx => coded_code d hr x hx
 obtain ⟨b0, b1, b2, b3⟩ := diff_fits hr
 have G := Lib.hid (show (!(diffAt d).data.toList.isEmpty) = true by rw [diffAt_some hr]; rfl)
 have F := Lib.hid (diffAt_in hr)
 rw [G.out, F.out]
 generalize codeOf d = x at hcon b2 b3 ⊢
 generalize lenOf d = y at hcon b0 b1 b2 ⊢
 have hrow := fun w => row_code (x : Int) (y : Int) w (by omega) (by
  unfold fitsIn
  rw [decide_eq_true_iff]
  refine ⟨by omega, by omega, by omega, ?_⟩
  rw [Int.toNat_natCast]
  exact_mod_cast b2)
 simp only [Int.toNat_natCast] at hrow
 clear h0 h1 F G b2
 go_enter Tryd.func44, Tryd.ntmps44
 go_wp2_with fail
 refine (hcon _ hp).mono ?_
 rintro e w1 ⟨rfl, hb1⟩
 have hz1 := hb1.size
 go_wp2_with fail
 refine (hrow _).mono ?_
 rintro e w2 ⟨rfl, hb⟩
 go_wp2
 go_ret2
 exact ⟨rfl, hb1.trans (hb.mono hz1)⟩
end Go.Proofs.YtekjgcchnmnplaaDoor

namespace Go.Proofs.YtekjgcchnmnplaaDoor
open Go.RowKit Go.Lib
def refP : List ByteArray := [⟨#[49, 49]⟩, ⟨#[48, 49, 49, 48]⟩, ⟨#[49, 48, 48, 48]⟩, ⟨#[48, 49, 48, 48]⟩, ⟨#[49, 48, 49, 48]⟩, ⟨#[48, 49, 48, 49]⟩, ⟨#[48, 48, 48, 48, 49, 49]⟩, ⟨#[48, 48, 48, 49, 48]⟩, ⟨#[49, 48, 49, 49]⟩, ⟨#[48, 48, 48, 48, 49, 48]⟩, ⟨#[48, 49, 49, 49]⟩, ⟨#[48, 48, 48, 49, 49]⟩, ⟨#[49, 48, 48, 49]⟩, ⟨#[48, 48, 49, 48, 48]⟩, ⟨#[48, 48, 49, 48, 49]⟩, ⟨#[48, 48, 49, 49]⟩]
theorem refP_len : refP.length = 16 := rfl
theorem refP_at : ∀ i, (h : i < 16) → refP[i]'(by rw [refP_len]; exact h) = patL[15 - i]'(by rw [patL_len]; omega) := by decide +kernel
set_option maxHeartbeats 1000000 in
theorem prows_page (w : World) : Calls Tryd.prog 49 #[] w fun e w' => e = .returned (.slice (some ⟨w.heap.size, 0, none⟩) 16 16) ∧ Strs w' (some ⟨w.heap.size, 0, none⟩) refP ∧ Below w.heap.size w w' := by
 go_enter Tryd.func49, Tryd.ntmps49
 go_wp2
 go_ret
 exact ⟨rfl, strs_blockP (T := 9) (l := refP) (heap_alloc_new w _), (Below.refl _ w).alloc (Nat.le_refl _) _⟩
set_option maxRecDepth 100000 in
set_option maxHeartbeats 2000000 in
theorem prow_page (intra : Bool) (k : Int) (w : World) : Calls Tryd.prog 30 #[.bool intra, .int .i64 k] w fun e w' => e = .returned (.string (patAt intra k)) ∧ Below w.heap.size w w' := by
 by_cases h0 : k < 0
 ·have F := Lib.hid (patAt_out (intra := intra) (.inl h0))
  have t0 : decide (k < 0) = true := by simpa using h0
  clear h0
  rw [F.out]
  go_enter Tryd.func30, Tryd.ntmps30
  go_wp2
  go_ret
  exact ⟨rfl, Below.refl _ _⟩
 by_cases h4 : 15 < k
 ·have F := Lib.hid (patAt_out (intra := intra) (k := k) (.inr (by omega)))
  have t0 : decide (k < 0) = false := by simpa using h0
  have t1 : decide (15 < k) = true := by simpa using h4
  clear h0 h4
  rw [F.out]
  go_enter Tryd.func30, Tryd.ntmps30
  go_wp2
  go_ret
  exact ⟨rfl, Below.refl _ _⟩
 obtain ⟨a, rfl⟩ : ∃ a : Nat, k = a := ⟨k.toNat, by omega⟩
 have t0 : decide ((a : Int) < 0) = false := by simp
 have t1 : decide (15 < (a : Int)) = false := by simp; omega
 have ha : a < 16 := by omega
 have F0 := patAt_in (intra := intra) ha rfl
 cases intra with
 | true =>
  have hj : 15 - a < refP.length := by rw [refP_len]; omega
  have F := Lib.hid (F0.trans (show patL[sameN true a]'_ = refP[15 - a]'hj by rw [refP_at (15 - a) (by omega)]; congr 1; show a = _; omega))
  have e15 : (15 : Int) - a = ((15 - a : Nat) : Int) := by omega
  clear F0 h0 h4
  rw [F.out]
  go_enter Tryd.func30, Tryd.ntmps30
  go_wp2_with fail
  refine (prows_page _).mono ?_
  rintro e w1 ⟨rfl, hst, hb⟩
  obtain ⟨b, o, e, _, hc⟩ := hst.at (by rw [refP_len]; omega)
  cases e
  have c0 := hc (15 - a) hj
  rw [Nat.zero_add] at c0
  clear hc
  obtain ⟨m, hm⟩ : ∃ m, 15 - a = m := ⟨_, rfl⟩
  rw [hm] at e15
  simp only [hm] at c0
  go_wp2
  go_ret
  subst hm
  exact ⟨rfl, hb⟩
 | false =>
  have hj : a < refP.length := by rw [refP_len]; omega
  have F := Lib.hid (F0.trans (show patL[sameN false a]'_ = refP[a]'hj by rw [refP_at a ha]; rfl))
  clear F0 h0 h4
  rw [F.out]
  go_enter Tryd.func30, Tryd.ntmps30
  go_wp2_with fail
  refine (prows_page _).mono ?_
  rintro e w1 ⟨rfl, hst, hb⟩
  obtain ⟨b, o, e, _, hc⟩ := hst.at (by rw [refP_len]; omega)
  cases e
  have c0 := hc a hj
  rw [Nat.zero_add] at c0
  clear hc
  go_wp2
  go_ret
  exact ⟨rfl, hb⟩
end Go.Proofs.YtekjgcchnmnplaaDoor

namespace Go.Proofs.YtekjgcchnmnplaaDoor
def cellD (i : Nat) : ByteArray × Int := (diffAt ((i : Int) - 32), (i : Int) - 32)
theorem ampL_length (i : Nat) : (ampL i).length = lenAt i := rowOf_length _ _
theorem amp_zero : ampL 0 = rowC (cellD 32) := by decide +kernel
theorem amp_up : ∀ i, i < 32 → 0 < i → ampL i ++ [48] = rowC (cellD (32 + i)) := by decide +kernel
theorem amp_down : ∀ i, i < 33 → 0 < i → ampL i ++ [49] = rowC (cellD (32 - i)) := by decide +kernel
end Go.Proofs.YtekjgcchnmnplaaDoor

namespace Go.Proofs.YtekjgcchnmnplaaDoor
open Go.RowKit Go.Lib
def refA : List ByteArray := [⟨#[49]⟩, ⟨#[48, 49]⟩, ⟨#[48, 48, 49]⟩, ⟨#[48, 48, 48, 49]⟩, ⟨#[48, 48, 48, 48, 49, 49]⟩, ⟨#[48, 48, 48, 48, 49, 48, 49]⟩, ⟨#[48, 48, 48, 48, 49, 48, 48]⟩, ⟨#[48, 48, 48, 48, 48, 49, 49]⟩, ⟨#[48, 48, 48, 48, 48, 49, 48, 49, 49]⟩, ⟨#[48, 48, 48, 48, 48, 49, 48, 49, 48]⟩, ⟨#[48, 48, 48, 48, 48, 49, 48, 48, 49]⟩, ⟨#[48, 48, 48, 48, 48, 49, 48, 48, 48, 49]⟩, ⟨#[48, 48, 48, 48, 48, 49, 48, 48, 48, 48]⟩, ⟨#[48, 48, 48, 48, 48, 48, 49, 49, 49, 49]⟩, ⟨#[48, 48, 48, 48, 48, 48, 49, 49, 49, 48]⟩, ⟨#[48, 48, 48, 48, 48, 48, 49, 49, 48, 49]⟩, ⟨#[48, 48, 48, 48, 48, 48, 49, 49, 48, 48]⟩, ⟨#[48, 48, 48, 48, 48, 48, 49, 48, 49, 49]⟩, ⟨#[48, 48, 48, 48, 48, 48, 49, 48, 49, 48]⟩, ⟨#[48, 48, 48, 48, 48, 48, 49, 48, 48, 49]⟩, ⟨#[48, 48, 48, 48, 48, 48, 49, 48, 48, 48]⟩, ⟨#[48, 48, 48, 48, 48, 48, 48, 49, 49, 49]⟩, ⟨#[48, 48, 48, 48, 48, 48, 48, 49, 49, 48]⟩, ⟨#[48, 48, 48, 48, 48, 48, 48, 49, 48, 49]⟩, ⟨#[48, 48, 48, 48, 48, 48, 48, 49, 48, 48]⟩, ⟨#[48, 48, 48, 48, 48, 48, 48, 48, 49, 49, 49]⟩, ⟨#[48, 48, 48, 48, 48, 48, 48, 48, 49, 49, 48]⟩, ⟨#[48, 48, 48, 48, 48, 48, 48, 48, 49, 48, 49]⟩, ⟨#[48, 48, 48, 48, 48, 48, 48, 48, 49, 48, 48]⟩, ⟨#[48, 48, 48, 48, 48, 48, 48, 48, 48, 49, 49]⟩, ⟨#[48, 48, 48, 48, 48, 48, 48, 48, 48, 49, 48]⟩, ⟨#[48, 48, 48, 48, 48, 48, 48, 48, 48, 48, 49, 49]⟩, ⟨#[48, 48, 48, 48, 48, 48, 48, 48, 48, 48, 49, 48]⟩]
theorem refA_len : refA.length = 33 := rfl
theorem refA_rows : ∀ i, (h : i < 33) → (refA[i]'(by rw [refA_len]; exact h)).data.toList = ampL i := by decide +kernel
theorem refA_at {i : Nat} (h : i < 33) : refA[i]'(by rw [refA_len]; exact h) = ⟨(ampL i).toArray⟩ := ba_eq.2 (refA_rows i h)
theorem refA_size {i : Nat} (h : i < 33) : (refA[i]'(by rw [refA_len]; exact h)).size ≤ 12 := by
 rw [refA_at h, size_mk, ampL_length]
 exact (amount_fits i h).2.1
theorem diff_zero : diffAt 0 = ⟨(ampL 0).toArray⟩ := ba_eq.2 amp_zero.symm
theorem diff_up {i : Nat} (h : i < 32) (h0 : 0 < i) : diffAt (i : Int) = ⟨(ampL i).toArray⟩ ++ ⟨#[48]⟩ := by
 rw [show (⟨#[48]⟩ : ByteArray) = ⟨[48].toArray⟩ from rfl, bytes_append, amp_up i h h0]
 refine ba_eq.2 ?_
 show _ = (diffAt (((32 + i : Nat) : Int) - 32)).data.toList
 rw [show ((32 + i : Nat) : Int) - 32 = i by omega]
theorem diff_down {i : Nat} (h : i < 33) (h0 : 0 < i) : diffAt (-(i : Int)) = ⟨(ampL i).toArray⟩ ++ ⟨#[49]⟩ := by
 rw [show (⟨#[49]⟩ : ByteArray) = ⟨[49].toArray⟩ from rfl, bytes_append, amp_down i h h0]
 refine ba_eq.2 ?_
 show _ = (diffAt (((32 - i : Nat) : Int) - 32)).data.toList
 rw [show ((32 - i : Nat) : Int) - 32 = -(i : Int) by omega]
set_option maxRecDepth 100000 in
set_option maxHeartbeats 1000000 in
theorem amounts_page (w : World) : Calls Tryd.prog 50 #[] w fun e w' => e = .returned (.slice (some ⟨w.heap.size, 0, none⟩) 33 33) ∧ Strs w' (some ⟨w.heap.size, 0, none⟩) refA ∧ Below w.heap.size w w' := by
 go_enter Tryd.func50, Tryd.ntmps50
 go_wp2
 go_ret
 exact ⟨rfl, strs_blockP (T := 9) (l := refA) (heap_alloc_new w _), (Below.refl _ w).alloc (Nat.le_refl _) _⟩
set_option maxRecDepth 100000 in
set_option maxHeartbeats 2000000 in
theorem drow_page (d : Int) (w : World) : Calls Tryd.prog 31 #[.int .i64 d] w fun e w' => e = .returned (.string (diffAt d)) ∧ Below w.heap.size w w' := by
 by_cases h0 : d < -32
 ·have F := Lib.hid (diffAt_out (d := d) (.inl h0))
  have t0 : decide (d < -32) = true := by simpa using h0
  clear h0
  rw [F.out]
  go_enter Tryd.func31, Tryd.ntmps31
  go_wp2
  go_ret
  exact ⟨rfl, Below.refl _ _⟩
 by_cases h1 : 31 < d
 ·have F := Lib.hid (diffAt_out (d := d) (.inr h1))
  have t0 : decide (d < -32) = false := by simpa using h0
  have t1 : decide (31 < d) = true := by simpa using h1
  clear h0 h1
  rw [F.out]
  go_enter Tryd.func31, Tryd.ntmps31
  go_wp2
  go_ret
  exact ⟨rfl, Below.refl _ _⟩
 have t0 : decide (d < -32) = false := by simpa using h0
 have t1 : decide (31 < d) = false := by simpa using h1
 by_cases h2 : d < 0
 ·obtain ⟨a, ha⟩ : ∃ a : Nat, (-d).toNat = a := ⟨_, rfl⟩
  have e2 : -d = (a : Int) := by omega
  have hj : a < 33 := by omega
  have F := Lib.hid (show diffAt d = refA[a]'(by rw [refA_len]; exact hj) ++ ⟨#[49]⟩ by rw [refA_at hj, ← diff_down hj (by omega)]; congr 1; omega)
  have t2 : decide (d < 0) = true := by simpa using h2
  obtain ⟨r, hr2⟩ : ∃ r, refA[a]'(by rw [refA_len]; exact hj) = r := ⟨_, rfl⟩
  have hsz := refA_size hj
  rw [hr2] at F hsz
  clear h0 h1 h2 ha
  rw [F.out]
  go_enter Tryd.func31, Tryd.ntmps31
  go_wp2_with fail
  refine (amounts_page _).mono ?_
  rintro e w1 ⟨rfl, hst, hb⟩
  obtain ⟨b, o, e, _, hc⟩ := hst.at (by rw [refA_len]; omega)
  cases e
  have c0 : w1.cell? ⟨w.heap.size, 0 + a, none⟩ = some (.string r) := (hc a hj).trans (congrArg (fun x => some (Value.string x)) hr2)
  rw [Nat.zero_add] at c0
  clear hc
  go_wp2
  go_ret
  exact ⟨rfl, hb⟩
 ·have t2 : decide (d < 0) = false := by simpa using h2
  by_cases h3 : 0 < d
  ·obtain ⟨a, ha⟩ : ∃ a : Nat, d.toNat = a := ⟨_, rfl⟩
   obtain rfl : d = (a : Int) := by omega
   have hj : a < 33 := by omega
   have ha0 : 0 < a := by omega
   have F := Lib.hid (show diffAt (a : Int) = refA[a]'(by rw [refA_len]; exact hj) ++ ⟨#[48]⟩ by rw [refA_at hj, ← diff_up (by omega) ha0])
   obtain ⟨r, hr2⟩ : ∃ r, refA[a]'(by rw [refA_len]; exact hj) = r := ⟨_, rfl⟩
   have hsz := refA_size hj
   rw [hr2] at F hsz
   clear h0 h1 h2 h3 ha
   rw [F.out]
   go_enter Tryd.func31, Tryd.ntmps31
   go_wp2_with fail
   refine (amounts_page _).mono ?_
   rintro e w1 ⟨rfl, hst, hb⟩
   obtain ⟨b, o, e, _, hc⟩ := hst.at (by rw [refA_len]; omega)
   cases e
   have c0 : w1.cell? ⟨w.heap.size, 0 + a, none⟩ = some (.string r) := (hc a hj).trans (congrArg (fun x => some (Value.string x)) hr2)
   rw [Nat.zero_add] at c0
   clear hc
   go_wp2
   go_ret
   exact ⟨rfl, hb⟩
  ·obtain rfl : d = 0 := by omega
   have F := Lib.hid (show diffAt 0 = refA[0]'(by decide) by rw [refA_at (by decide), diff_zero])
   clear h0 h1 h2 h3 t0 t1 t2
   rw [F.out]
   go_enter Tryd.func31, Tryd.ntmps31
   go_wp2_with fail
   refine (amounts_page _).mono ?_
   rintro e w1 ⟨rfl, hst, hb⟩
   obtain ⟨b, o, e, _, hc⟩ := hst.at (by rw [refA_len]; omega)
   cases e
   have c0 := hc 0 (by decide)
   rw [Nat.zero_add] at c0
   clear hc
   go_wp2
   go_ret
   exact ⟨rfl, hb⟩
end Go.Proofs.YtekjgcchnmnplaaDoor

namespace Go.Proofs.YtekjgcchnmnplaaDoor
open Go.RowKit Go.Lib
theorem mvd_text : (Rows.laid_overspill_mvd_codes : DataW Unit) = tabData .i64 (codeZ.map fun z : Nat => (z : Int)) ∧ (Rows.laid_overspill_mvd_lengths : DataW Unit) = tabData .i64 (lenZ.map fun z : Nat => (z : Int)) := ⟨by kernel_rfl, by kernel_rfl⟩
theorem nat_at (l : List Nat) (i : Nat) (h : i < (l.map fun z : Nat => (z : Int)).length) : (l.map fun z : Nat => (z : Int))[i] = ((l[i]?.getD 0 : Nat) : Int) := by
 have h2 : i < l.length := by simpa using h
 rw [List.getElem_map, List.getElem?_eq_getElem h2]
 rfl
theorem mvd_laid {laid : List (String × DataW Unit)} {W : World} (hL : laidMetH Tryd.prog laid W) (hm : (("overspill/mvd.codes", Rows.laid_overspill_mvd_codes) ∈ laid ∧ ("overspill/mvd.lengths", Rows.laid_overspill_mvd_lengths) ∈ laid) ∧ (laid.all fun x => x.2.handleName?.isNone) = true) : HasMvd W := by
 rw [MakeChecks.laidMetH_plain _ _ _ hm.2] at hL
 obtain ⟨ps, hv, _, _⟩ := hL
 obtain ⟨h1, h2⟩ := hm.1
 rw [mvd_text.1] at h1
 rw [mvd_text.2] at h2
 have hlc : (codeZ.map fun z : Nat => (z : Int)).length = 33 := rfl
 have hll : (lenZ.map fun z : Nat => (z : Int)).length = 33 := rfl
 intro i hi
 have g1 := ints_laid hv h1 (g := 2) (t := 118) (by kernel_rfl) (by kernel_rfl) Tryd.underlying118 Tryd.underlying3 (by kernel_rfl) (by kernel_rfl) i (by rw [hlc]; exact hi)
 have g2 := ints_laid hv h2 (g := 3) (t := 118) (by kernel_rfl) (by kernel_rfl) Tryd.underlying118 Tryd.underlying3 (by kernel_rfl) (by kernel_rfl) i (by rw [hll]; exact hi)
 rw [nat_at] at g1 g2
 exact ⟨g1, g2⟩
end Go.Proofs.YtekjgcchnmnplaaDoor
