/- Texts that CelloutBack's proof stands on, part 15 of 45. No condition of its own. -/
import Derived.Test.YtekjgcchnmnplaaGreatDoorCelloutBackMc
import Derived.Test.YtekjgcchnmnplaaGreatDoorCelloutBackMh
import Derived.Test.YtekjgcchnmnplaaGreatDoorCelloutBackMj
import Derived.Test.YtekjgcchnmnplaaGreatDoorCelloutBackMn
import Derived.WalkMore
import Derived.IntWalk
import Derived.Test.YtekjgcchnmnplaaGreatDoorRows
namespace Go.Proofs.YtekjgcchnmnplaaGreatDoor
open Go.RowKit Go.Lib
def codeZ : List Nat := [1, 1, 1, 1, 3, 5, 4, 3, 11, 10, 9, 17, 16, 15, 14, 13, 12, 11, 10, 9, 8, 7, 6, 5, 4, 7, 6, 5, 4, 3, 2, 3, 2]
def lenZ : List Nat := [1, 2, 3, 4, 6, 7, 7, 7, 9, 9, 9, 10, 10, 10, 10, 10, 10, 10, 10, 10, 10, 10, 10, 10, 10, 11, 11, 11, 11, 11, 11, 12, 12]
def codeAt (i : Nat) : Nat := codeZ[i]?.getD 0
def lenAt (i : Nat) : Nat := lenZ[i]?.getD 0
theorem amount_fits : ∀ i, i < 33 → 1 ≤ lenAt i ∧ lenAt i ≤ 12 ∧ codeAt i < 2 ^ lenAt i ∧ codeAt i ≤ 17 := by decide +kernel
def ampL (i : Nat) : List UInt8 := rowOf (codeAt i) (lenAt i)
def codeOf (d : Int) : Nat := if d = 0 then 1 else if 0 < d then 2 * codeAt d.toNat else 2 * codeAt (-d).toNat + 1
def lenOf (d : Int) : Nat := if d = 0 then 1 else if 0 < d then lenAt d.toNat + 1 else lenAt (-d).toNat + 1
def diffAt (d : Int) : ByteArray := if -32 ≤ d ∧ d ≤ 31 then ⟨(rowOf (codeOf d) (lenOf d)).toArray⟩ else ⟨#[]⟩
theorem diffAt_out {d : Int} (h : d < -32 ∨ 31 < d) : diffAt d = ⟨#[]⟩ := by
 unfold diffAt
 rw [if_neg (by omega)]
theorem diffAt_in {d : Int} (h : -32 ≤ d ∧ d ≤ 31) : diffAt d = ⟨(rowOf (codeOf d) (lenOf d)).toArray⟩ := by
 unfold diffAt
 rw [if_pos h]
theorem diff_fits {d : Int} (h : -32 ≤ d ∧ d ≤ 31) : 1 ≤ lenOf d ∧ lenOf d ≤ 13 ∧ codeOf d < 2 ^ lenOf d ∧ codeOf d ≤ 35 := by
 have e : ∀ i : Nat, i < 64 → 1 ≤ lenOf ((i : Int) - 32) ∧ lenOf ((i : Int) - 32) ≤ 13 ∧ codeOf ((i : Int) - 32) < 2 ^ lenOf ((i : Int) - 32) ∧ codeOf ((i : Int) - 32) ≤ 35 := by decide +kernel
 have := e (d + 32).toNat (by omega)
 rwa [show (((d + 32).toNat : Nat) : Int) - 32 = d by omega] at this
theorem diffAt_some {d : Int} (h : -32 ≤ d ∧ d ≤ 31) : (diffAt d).data.toList.isEmpty = false := by
 rw [diffAt_in h]
 show (rowOf (codeOf d) (lenOf d)).isEmpty = false
 have := diff_fits h
 cases hl : rowOf (codeOf d) (lenOf d) with
 | nil =>
  have e := rowOf_length (codeOf d) (lenOf d)
  rw [hl] at e
  simp at e
  omega
 | cons a l => rfl
def HasMvd (w : World) : Prop := ∀ i, i < 33 → w.cell? ⟨3, i, none⟩ = some (.int .i64 (codeAt i : Nat)) ∧ w.cell? ⟨2, i, none⟩ = some (.int .i64 (lenAt i : Nat))
theorem HasMvd.lt {w : World} (h : HasMvd w) : 3 < w.heap.size ∧ 2 < w.heap.size :=
 ⟨World.block_lt_of_cell? w ⟨3, 0, none⟩ (h 0 (by decide)).1, World.block_lt_of_cell? w ⟨2, 0, none⟩ (h 0 (by decide)).2⟩
theorem HasMvd.below {w w' : World} (h : HasMvd w) (hb : Below w.heap.size w w') : HasMvd w' := fun i hi =>
 ⟨(hb.cell (p := ⟨3, i, none⟩) h.lt.1).trans (h i hi).1, (hb.cell (p := ⟨2, i, none⟩) h.lt.2).trans (h i hi).2⟩
theorem HasMvd.grown {w w' : World} {b : Nat} (h : HasMvd w) (hg : w.grownBy w' (some b)) (h1 : 3 ≠ b) (h2 : 2 ≠ b) : HasMvd w' := fun i hi =>
 ⟨(World.cell?_of_block (a := ⟨3, i, none⟩) (hg.block _ h.lt.1 (by simpa using h1))).trans (h i hi).1, (World.cell?_of_block (a := ⟨2, i, none⟩) (hg.block _ h.lt.2 (by simpa using h2))).trans (h i hi).2⟩
theorem or_one (y : Nat) (hy : y < 4294967296) : bits .or .i64 ((y : Int) * 2) 1 = ((2 * y + 1 : Nat) : Int) := by
 have hor := Nat.two_pow_add_eq_or_of_lt (i := 1) (b := 1) (by omega) y
 have e1 : ((y : Int) * 2) = ((2 * y : Nat) : Int) := by omega
 rw [e1]
 show IntKind.i64.wrap ((BitVec.ofInt 64 ((2 * y : Nat) : Int) ||| BitVec.ofInt 64 ((1 : Nat) : Int)).toNat : Int) = _
 rw [BitVec.ofInt_natCast, BitVec.ofInt_natCast, BitVec.toNat_or, BitVec.toNat_ofNat, BitVec.toNat_ofNat, Nat.mod_eq_of_lt (by omega), Nat.mod_eq_of_lt (by omega)]
 have e2 : 2 * y ||| 1 = 2 * y + 1 := by
  have e : (2 : Nat) ^ 1 = 2 := rfl
  rw [e] at hor
  exact hor.symm
 rw [e2, IntKind.wrap_i64]
 omega
theorem ret_two {a b c d : Int} {k k' : IntKind} (h : a = c) (h' : b = d) : Ending.returned (.tuple #[.int k a, .int k' b]) = .returned (.tuple #[.int k c, .int k' d]) := by rw [h, h']
set_option maxHeartbeats 1000000 in
theorem coded_code (d : Int) (h : -32 ≤ d ∧ d ≤ 31) (w : World) (hp : HasMvd w) : Calls Tryz.prog 57 #[.int .i64 d] w fun e w' => e = .returned (.tuple #[.int .i64 (codeOf d : Nat), .int .i64 (lenOf d : Nat)]) ∧ Below w.heap.size w w' := by
 by_cases h0 : d = 0
 ·subst h0
  have c0 : w.cell? ⟨3, 0, none⟩ = some (.int .i64 1) := (hp 0 (by decide)).1
  have c1 : w.cell? ⟨2, 0, none⟩ = some (.int .i64 1) := (hp 0 (by decide)).2
  go_enter Tryz.func57, Tryz.ntmps57
  go_wp2
  go_region
  go_wp2
  go_ret2
  exact ⟨rfl, (Below.refl _ w).drew⟩
 by_cases h1 : 0 < d
 ·have F1 := Lib.hid (show codeOf d = 2 * codeAt d.toNat by unfold codeOf; rw [if_neg h0, if_pos h1])
  have F2 := Lib.hid (show lenOf d = lenAt d.toNat + 1 by unfold lenOf; rw [if_neg h0, if_pos h1])
  rw [F1.out, F2.out]
  obtain ⟨a, ha⟩ : ∃ a : Nat, d = a := ⟨d.toNat, by omega⟩
  subst ha
  rw [Int.toNat_natCast]
  have ha33 : a < 33 := by omega
  obtain ⟨c0, c1⟩ := hp a ha33
  obtain ⟨b0, b1, _, b3⟩ := amount_fits a ha33
  have t0 : 0 < a := by omega
  generalize codeAt a = x at c0 b3 ⊢
  generalize lenAt a = y at c1 b0 b1 ⊢
  clear F1 F2 h0 h1
  go_enter Tryz.func57, Tryz.ntmps57
  go_wp2
  go_region
  go_wp2
  go_ret2
  exact ⟨ret_two (by omega) (by omega), (Below.refl _ w).drew⟩
 ·have F1 := Lib.hid (show codeOf d = 2 * codeAt (-d).toNat + 1 by unfold codeOf; rw [if_neg h0, if_neg h1])
  have F2 := Lib.hid (show lenOf d = lenAt (-d).toNat + 1 by unfold lenOf; rw [if_neg h0, if_neg h1])
  rw [F1.out, F2.out]
  obtain ⟨a, ha⟩ : ∃ a : Nat, (-d).toNat = a := ⟨_, rfl⟩
  have t2 : -d = (a : Int) := by omega
  rw [ha]
  have ha33 : a < 33 := by omega
  obtain ⟨c0, c1⟩ := hp a ha33
  obtain ⟨b0, b1, _, b3⟩ := amount_fits a ha33
  have t0 : decide (0 < d) = false := by simpa using h1
  have t1 : decide (d < 0) = true := by simp; omega
  generalize codeAt a = x at c0 b3 ⊢
  generalize lenAt a = y at c1 b0 b1 ⊢
  have O := Lib.hid (or_one x (by omega))
  clear F1 F2 h0 h1 ha
  go_enter Tryz.func57, Tryz.ntmps57
  go_wp2
  go_region
  go_wp2
  go_ret2
  exact ⟨ret_two O.out (by omega), (Below.refl _ w).drew⟩
theorem drow_code (d : Int) (w : World) (hp : HasMvd w) : Calls Tryz.prog 38 #[.int .i64 d] w fun e w' => e = .returned (.tuple #[.string (diffAt d), .bool (!(diffAt d).data.toList.isEmpty)]) ∧ Below w.heap.size w w' := by
 by_cases h0 : d < -32
 ·have F := Lib.hid (diffAt_out (d := d) (.inl h0))
  have t0 : decide (d < -32) = true := by simpa using h0
  clear h0
  rw [F.out]
  go_enter Tryz.func38, Tryz.ntmps38
  go_wp2
  go_ret2
  exact ⟨rfl, Below.refl _ _⟩
 by_cases h1 : 31 < d
 ·have F := Lib.hid (diffAt_out (d := d) (.inr h1))
  have t0 : decide (d < -32) = false := by simpa using h0
  have t1 : decide (31 < d) = true := by simpa using h1
  clear h0 h1
  rw [F.out]
  go_enter Tryz.func38, Tryz.ntmps38
  go_wp2
  go_ret2
  exact ⟨rfl, Below.refl _ _⟩
 have hr : -32 ≤ d ∧ d ≤ 31 := by omega
 have t0 : decide (d < -32) = false := by simpa using h0
 have t1 : decide (31 < d) = false := by simpa using h1
 have hcon := fun x hx => coded_code d hr x hx
 obtain ⟨b0, b1, b2, b3⟩ := diff_fits hr
 have G := Lib.hid (show (!(diffAt d).data.toList.isEmpty) = true by rw [diffAt_some hr]; rfl)
 have F := Lib.hid (diffAt_in hr)
 rw [G.out, F.out]
 generalize codeOf d = x at hcon b2 b3 ⊢
 generalize lenOf d = y at hcon b0 b1 b2 ⊢
 have hrow := fun w => row_code (x : Int) (y : Int) w (by omega) (by
  unfold fitsIn
  rw [decide_eq_true_iff]
  refine ⟨by omega, by omega, by omega, ?_⟩
  rw [Int.toNat_natCast]
  exact_mod_cast b2)
 simp only [Int.toNat_natCast] at hrow
 clear h0 h1 F G b2
 go_enter Tryz.func38, Tryz.ntmps38
 go_wp2_with fail
 refine (hcon _ hp).mono ?_
 rintro e w1 ⟨rfl, hb1⟩
 have hz1 := hb1.size
 go_wp2_with fail
 refine (hrow _).mono ?_
 rintro e w2 ⟨rfl, hb⟩
 go_wp2
 go_ret2
 exact ⟨rfl, hb1.trans (hb.mono hz1)⟩
end Go.Proofs.YtekjgcchnmnplaaGreatDoor

namespace Go.Proofs.YtekjgcchnmnplaaGreatDoor
def cellD (i : Nat) : ByteArray × Int := (diffAt ((i : Int) - 32), (i : Int) - 32)
def allD : List (ByteArray × Int) := (List.range 64).map cellD
def rowsD : List (List UInt8) := allD.map rowC
def dtk (b : List UInt8) : Int × Int × Nat := gtk allD b
theorem allD_free : free rowsD := by unfold free; decide +kernel
theorem allD_ok : ∀ x ∈ allD, okRow (rowC x) = true := by decide +kernel
theorem cellD_all {i : Nat} (h : i < 64) : cellD i ∈ allD := List.mem_map_of_mem (List.mem_range.2 h)
theorem cellD_row {i : Nat} (h : i < 64) : rowC (cellD i) ∈ rowsD := List.mem_map_of_mem (cellD_all h)
theorem ampL_length (i : Nat) : (ampL i).length = lenAt i := rowOf_length _ _
theorem amp_free : ∀ i, i < 33 → ∀ j, j < 33 → i ≠ j → (ampL i).isPrefixOf (ampL j) = false := by decide +kernel
theorem row_amp : ∀ r ∈ rowsD, r = ampL 0 ∨ ∃ i ∈ List.range 33, r.dropLast = ampL i ∧ 1 < r.length := by decide +kernel
theorem amp_zero : ampL 0 = rowC (cellD 32) := by decide +kernel
theorem amp_up : ∀ i, i < 32 → 0 < i → ampL i ++ [48] = rowC (cellD (32 + i)) := by decide +kernel
theorem amp_down : ∀ i, i < 33 → 0 < i → ampL i ++ [49] = rowC (cellD (32 - i)) := by decide +kernel
theorem amp_most : ∀ r ∈ rowsD, (ampL 32 ++ [48]).isPrefixOf r = false := by decide +kernel
theorem amp_begins {i : Nat} (h : i < 33) : ∃ r ∈ rowsD, (ampL i).isPrefixOf r = true := by
 by_cases h0 : i = 0
 ·subst h0
  exact ⟨_, cellD_row (i := 32) (by decide), by rw [amp_zero, pre_refl]⟩
 ·refine ⟨_, cellD_row (i := 32 - i) (by omega), ?_⟩
  rw [← amp_down i h (by omega), List.isPrefixOf_iff_prefix]
  exact List.prefix_append _ _
theorem amp_one {i j : Nat} (hi : i < 33) (hj : j < 33) (h : (ampL i).isPrefixOf (ampL j) = true) : i = j := by
 by_cases e : i = j
 ·exact e
 ·rw [amp_free i hi j hj e] at h
  cases h
theorem amp_not {i : Nat} (hi : i < 33) (h0 : i ≠ 0) : ampL i ∉ rowsD := by
 intro h
 have e := free_eq allD_free h (cellD_row (i := 32 - i) (by omega)) (by rw [← amp_down i hi (by omega), List.isPrefixOf_iff_prefix]; exact List.prefix_append _ _)
 rw [← amp_down i hi (by omega)] at e
 have := congrArg List.length e
 rw [List.length_append, List.length_singleton] at this
 omega
def noneD (q : List UInt8) : Prop := ∀ i, i < 33 → (ampL i).isPrefixOf q = false
theorem none_nil : noneD [] := by unfold noneD; decide +kernel
theorem row_head {b r : List UInt8} {n : Nat} (hn : n + 1 ≤ b.length) (hno : noneD (b.take n)) (hr : r ∈ rowsD) (hp : (b.take (n + 1)).isPrefixOf r = true) : ∃ i, i < 33 ∧ (b.take (n + 1)).isPrefixOf (ampL i) = true := by
 have hl : (b.take (n + 1)).length = n + 1 := by rw [List.length_take]; omega
 rcases row_amp r hr with rfl | ⟨i, hi, hd, h1⟩
 ·exact ⟨0, by decide, hp⟩
 ·rw [List.mem_range] at hi
  refine ⟨i, hi, ?_⟩
  by_cases hlt : (b.take (n + 1)).length < r.length
  ·rw [← hd]
   exact pre_last hp hlt
  ·exfalso
   have hle := pre_length hp
   have e : b.take (n + 1) = r := by
    have := pre_take.1 hp
    rw [List.take_of_length_le (by omega)] at this
    exact this.symm
   have h2 : (ampL i).isPrefixOf (b.take n) = true := by
    rw [← hd, ← e, List.dropLast_eq_take, List.take_take, hl, show min (n + 1 - 1) (n + 1) = n by omega, pre_refl]
   rw [hno i hi] at h2
   cases h2
theorem dtk_none {b : List UInt8} {k n : Nat} (hn : n + 1 ≤ b.length) (hno : noneD (b.take n)) (h : ∀ i, i < 33 → (b.take (n + 1)).isPrefixOf (ampL i) = false) : tk rowsD b (k + 1) (n + 1) = (3, 0) := by
 refine tk_none hn fun r hr => ?_
 cases hp : (b.take (n + 1)).isPrefixOf r with
 | false => rfl
 | true =>
  obtain ⟨i, hi, h2⟩ := row_head hn hno hr hp
  rw [h i hi] at h2
  cases h2
theorem dtk_more {b : List UInt8} {k n i : Nat} (hn : n + 1 ≤ b.length) (hno : noneD (b.take n)) (hi : i < 33) (h : (b.take (n + 1)).isPrefixOf (ampL i) = true) (hne : lenAt i ≠ n + 1) :
  tk rowsD b (k + 1) (n + 1) = tk rowsD b k (n + 2) ∧ noneD (b.take (n + 1)) := by
 have hl : (b.take (n + 1)).length = n + 1 := by rw [List.length_take]; omega
 have hlt := pre_length h
 rw [hl, ampL_length] at hlt
 have hnone : noneD (b.take (n + 1)) := by
  intro j hj
  cases hp : (ampL j).isPrefixOf (b.take (n + 1)) with
  | false => rfl
  | true =>
   have e := amp_one hj hi (pre_trans hp h)
   subst e
   have := pre_length hp
   rw [hl, ampL_length] at this
   omega
 refine ⟨?_, hnone⟩
 obtain ⟨r, hr, hp⟩ := amp_begins hi
 refine tk_more hn (fun hm => ?_) hr (pre_trans h hp)
 rcases row_amp _ hm with e | ⟨j, hj, hd, _⟩
 ·have := hnone 0 (by decide)
  rw [e, pre_refl] at this
  cases this
 ·have := hno j (List.mem_range.1 hj)
  rw [← hd, List.dropLast_eq_take, List.take_take, hl, show min (n + 1 - 1) (n + 1) = n by omega, pre_refl] at this
  cases this
theorem amp_take {b : List UInt8} {i n : Nat} (hn : n ≤ b.length) (h : (b.take n).isPrefixOf (ampL i) = true) (he : lenAt i = n) : b.take n = ampL i := by
 have := pre_take.1 h
 rw [List.take_of_length_le (by rw [ampL_length, List.length_take]; omega)] at this
 exact this.symm
theorem dtk_zero {b : List UInt8} (hb : b.take (lenAt 0) = ampL 0) : dtk b = (0, 0, 1) := by
 have hp : (ampL 0).isPrefixOf b = true := by rw [← hb]; exact take_pre _ _
 rw [amp_zero] at hp
 have := gtk_row allD_free (cellD_all (i := 32) (by decide)) (by decide +kernel) (by decide +kernel) hp
 rw [show (rowC (cellD 32)).length = 1 by decide +kernel] at this
 exact this
theorem dtk_amp_short {b : List UInt8} {i n : Nat} (hi : i < 33) (h0 : i ≠ 0) (he : lenAt i = n) (hn : n ≤ b.length) (hb : b.take n = ampL i) (ht : tk rowsD b 25 1 = tk rowsD b (26 - n) n) (hs : b.length < n + 1) : dtk b = (0, 2, 0) := by
 have h12 := (amount_fits i hi).2.1
 obtain ⟨r, hr, hp⟩ := amp_begins hi
 refine gtk_not (n := 0) (ht.trans ?_) (by decide)
 rw [show 26 - n = (24 - n) + 1 + 1 by omega, tk_more hn (by rw [hb]; exact amp_not hi h0) hr (by rw [hb]; exact hp)]
 exact tk_short hs
theorem amp_next {b : List UInt8} {i n : Nat} (hn : n < b.length) (hb : b.take n = ampL i) {c : UInt8} (hc : b[n] = c) : b.take (n + 1) = ampL i ++ [c] := by
 rw [List.take_succ_eq_append_getElem hn, hb, hc]
theorem dtk_amp_most {b : List UInt8} {n : Nat} (he : lenAt 32 = n) (hn : n < b.length) (hb : b.take n = ampL 32) (hc : b[n] = 48) (ht : tk rowsD b 25 1 = tk rowsD b (26 - n) n) : dtk b = (0, 3, 0) := by
 have h12 : n ≤ 12 := by rw [← he]; exact (amount_fits 32 (by decide)).2.1
 obtain ⟨r, hr, hp⟩ := amp_begins (i := 32) (by decide)
 refine gtk_not (n := 0) (ht.trans ?_) (by decide)
 rw [show 26 - n = (24 - n) + 1 + 1 by omega, tk_more (by omega) (by rw [hb]; exact amp_not (by decide) (by decide)) hr (by rw [hb]; exact hp)]
 refine tk_none (by omega) fun r hr => ?_
 rw [amp_next hn hb hc]
 exact amp_most r hr
theorem dtk_row {b : List UInt8} {j : Nat} (hj : j < 64) (hp : (rowC (cellD j)).isPrefixOf b = true) : dtk b = ((j : Int) - 32, 0, (rowC (cellD j)).length) := by
 obtain ⟨h1, h2, _⟩ := okRow_inv (allD_ok _ (cellD_all hj))
 exact gtk_row allD_free (cellD_all hj) (by have := List.length_pos_iff.2 h1; omega) h2 hp
theorem dtk_amp_up {b : List UInt8} {i n : Nat} (hi : i < 32) (h0 : 0 < i) (he : lenAt i = n) (hn : n < b.length) (hb : b.take n = ampL i) (hc : b[n] = 48) : dtk b = ((i : Int), 0, n + 1) := by
 have e := amp_up i hi h0
 have hp : (rowC (cellD (32 + i))).isPrefixOf b = true := by rw [← e, ← amp_next hn hb hc]; exact take_pre _ _
 rw [dtk_row (by omega) hp, ← e, List.length_append, ampL_length, he, show ((32 + i : Nat) : Int) - 32 = i by omega]
 rfl
theorem dtk_amp_down {b : List UInt8} {i n : Nat} (hi : i < 33) (h0 : 0 < i) (he : lenAt i = n) (hn : n < b.length) (hb : b.take n = ampL i) (hc : b[n] = 49) : dtk b = (-(i : Int), 0, n + 1) := by
 have e := amp_down i hi h0
 have hp : (rowC (cellD (32 - i))).isPrefixOf b = true := by rw [← e, ← amp_next hn hb hc]; exact take_pre _ _
 rw [dtk_row (by omega) hp, ← e, List.length_append, ampL_length, he, show ((32 - i : Nat) : Int) - 32 = -(i : Int) by omega]
 rfl
end Go.Proofs.YtekjgcchnmnplaaGreatDoor

namespace Go.Proofs.YtekjgcchnmnplaaGreatDoor
open Go.RowKit Go.Lib
theorem mvd_text : (Rows.laid_overspill_mvd_codes : DataW Unit) = tabData .i64 (codeZ.map fun z : Nat => (z : Int)) ∧ (Rows.laid_overspill_mvd_lengths : DataW Unit) = tabData .i64 (lenZ.map fun z : Nat => (z : Int)) := ⟨by kernel_rfl, by kernel_rfl⟩
theorem nat_at (l : List Nat) (i : Nat) (h : i < (l.map fun z : Nat => (z : Int)).length) : (l.map fun z : Nat => (z : Int))[i] = ((l[i]?.getD 0 : Nat) : Int) := by
 have h2 : i < l.length := by simpa using h
 rw [List.getElem_map, List.getElem?_eq_getElem h2]
 rfl
theorem mvd_laid {laid : List (String × DataW Unit)} {W : World} (hL : laidMetH Tryz.prog laid W) (hm : (("overspill/mvd.codes", Rows.laid_overspill_mvd_codes) ∈ laid ∧ ("overspill/mvd.lengths", Rows.laid_overspill_mvd_lengths) ∈ laid) ∧ (laid.all fun x => x.2.handleName?.isNone) = true) : HasMvd W := by
 rw [MakeChecks.laidMetH_plain _ _ _ hm.2] at hL
 obtain ⟨ps, hv, _, _⟩ := hL
 obtain ⟨h1, h2⟩ := hm.1
 rw [mvd_text.1] at h1
 rw [mvd_text.2] at h2
 have hlc : (codeZ.map fun z : Nat => (z : Int)).length = 33 := rfl
 have hll : (lenZ.map fun z : Nat => (z : Int)).length = 33 := rfl
 intro i hi
 have g1 := ints_laid hv h1 (g := 3) (t := 120) (by kernel_rfl) (by kernel_rfl) Tryz.underlying120 Tryz.underlying3 (by kernel_rfl) (by kernel_rfl) i (by rw [hlc]; exact hi)
 have g2 := ints_laid hv h2 (g := 2) (t := 120) (by kernel_rfl) (by kernel_rfl) Tryz.underlying120 Tryz.underlying3 (by kernel_rfl) (by kernel_rfl) i (by rw [hll]; exact hi)
 rw [nat_at] at g1 g2
 exact ⟨g1, g2⟩
end Go.Proofs.YtekjgcchnmnplaaGreatDoor
