/- Texts that CellinTakes's proof stands on, part 26 of 38. No condition of its own. -/
import Derived.Test.YtbgncbhkjndelaaGreatDoorCellinTakesMc
import Derived.Test.YtbgncbhkjndelaaGreatDoorCellinTakesMk
import Derived.Test.YtbgncbhkjndelaaGreatDoorCellinTakesMu
import Derived.WalkMore
import Derived.IntWalk
namespace Go.Proofs.YtbgncbhkjndelaaGreatDoor
open Go.RowKit Go.Lib
def codeZ : List Nat := [1, 1, 1, 1, 3, 5, 4, 3, 11, 10, 9, 17, 16, 15, 14, 13, 12, 11, 10, 9, 8, 7, 6, 5, 4, 7, 6, 5, 4, 3, 2, 3, 2]
def lenZ : List Nat := [1, 2, 3, 4, 6, 7, 7, 7, 9, 9, 9, 10, 10, 10, 10, 10, 10, 10, 10, 10, 10, 10, 10, 10, 10, 11, 11, 11, 11, 11, 11, 12, 12]
def codeAt (i : Nat) : Nat := codeZ[i]?.getD 0
def lenAt (i : Nat) : Nat := lenZ[i]?.getD 0
theorem amount_fits : ∀ i, i < 33 → 1 ≤ lenAt i ∧ lenAt i ≤ 12 ∧ codeAt i < 2 ^ lenAt i ∧ codeAt i ≤ 17 := by decide +kernel
def ampL (i : Nat) : List UInt8 := rowOf (codeAt i) (lenAt i)
def codeOf (d : Int) : Nat := if d = 0 then 1 else if 0 < d then 2 * codeAt d.toNat else 2 * codeAt (-d).toNat + 1
def lenOf (d : Int) : Nat := if d = 0 then 1 else if 0 < d then lenAt d.toNat + 1 else lenAt (-d).toNat + 1
def diffAt (d : Int) : ByteArray := if -32 ≤ d ∧ d ≤ 31 then ⟨(rowOf (codeOf d) (lenOf d)).toArray⟩ else ⟨#[]⟩
theorem diffAt_out {d : Int} (h : d < -32 ∨ 31 < d) : diffAt d = ⟨#[]⟩ := by
 unfold diffAt
 rw [if_neg (by omega)]
def HasMvd (w : World) : Prop := ∀ i, i < 33 → w.cell? ⟨2, i, none⟩ = some (.int .i64 (codeAt i : Nat)) ∧ w.cell? ⟨1, i, none⟩ = some (.int .i64 (lenAt i : Nat))
theorem HasMvd.lt {w : World} (h : HasMvd w) : 2 < w.heap.size ∧ 1 < w.heap.size :=
 ⟨World.block_lt_of_cell? w ⟨2, 0, none⟩ (h 0 (by decide)).1, World.block_lt_of_cell? w ⟨1, 0, none⟩ (h 0 (by decide)).2⟩
theorem HasMvd.below {w w' : World} (h : HasMvd w) (hb : Below w.heap.size w w') : HasMvd w' := fun i hi =>
 ⟨(hb.cell (p := ⟨2, i, none⟩) h.lt.1).trans (h i hi).1, (hb.cell (p := ⟨1, i, none⟩) h.lt.2).trans (h i hi).2⟩
theorem HasMvd.grown {w w' : World} {b : Nat} (h : HasMvd w) (hg : w.grownBy w' (some b)) (h1 : 2 ≠ b) (h2 : 1 ≠ b) : HasMvd w' := fun i hi =>
 ⟨(World.cell?_of_block (a := ⟨2, i, none⟩) (hg.block _ h.lt.1 (by simpa using h1))).trans (h i hi).1, (World.cell?_of_block (a := ⟨1, i, none⟩) (hg.block _ h.lt.2 (by simpa using h2))).trans (h i hi).2⟩
end Go.Proofs.YtbgncbhkjndelaaGreatDoor

namespace Go.Proofs.YtbgncbhkjndelaaGreatDoor
def cellD (i : Nat) : ByteArray × Int := (diffAt ((i : Int) - 32), (i : Int) - 32)
def allD : List (ByteArray × Int) := (List.range 64).map cellD
def rowsD : List (List UInt8) := allD.map rowC
def dtk (b : List UInt8) : Int × Int × Nat := gtk allD b
theorem allD_free : free rowsD := by unfold free; decide +kernel
theorem allD_ok : ∀ x ∈ allD, okRow (rowC x) = true := by decide +kernel
theorem cellD_all {i : Nat} (h : i < 64) : cellD i ∈ allD := List.mem_map_of_mem (List.mem_range.2 h)
theorem cellD_row {i : Nat} (h : i < 64) : rowC (cellD i) ∈ rowsD := List.mem_map_of_mem (cellD_all h)
theorem ampL_length (i : Nat) : (ampL i).length = lenAt i := rowOf_length _ _
theorem amp_free : ∀ i, i < 33 → ∀ j, j < 33 → i ≠ j → (ampL i).isPrefixOf (ampL j) = false := by decide +kernel
theorem row_amp : ∀ r ∈ rowsD, r = ampL 0 ∨ ∃ i ∈ List.range 33, r.dropLast = ampL i ∧ 1 < r.length := by decide +kernel
theorem amp_zero : ampL 0 = rowC (cellD 32) := by decide +kernel
theorem amp_up : ∀ i, i < 32 → 0 < i → ampL i ++ [48] = rowC (cellD (32 + i)) := by decide +kernel
theorem amp_down : ∀ i, i < 33 → 0 < i → ampL i ++ [49] = rowC (cellD (32 - i)) := by decide +kernel
theorem amp_most : ∀ r ∈ rowsD, (ampL 32 ++ [48]).isPrefixOf r = false := by decide +kernel
theorem amp_begins {i : Nat} (h : i < 33) : ∃ r ∈ rowsD, (ampL i).isPrefixOf r = true := by
 by_cases h0 : i = 0
 ·subst h0
  exact ⟨_, cellD_row (i := 32) (by decide), by rw [amp_zero, pre_refl]⟩
 ·refine ⟨_, cellD_row (i := 32 - i) (by omega), ?_⟩
  rw [← amp_down i h (by omega), List.isPrefixOf_iff_prefix]
  exact List.prefix_append _ _
theorem amp_one {i j : Nat} (hi : i < 33) (hj : j < 33) (h : (ampL i).isPrefixOf (ampL j) = true) : i = j := by
 by_cases e : i = j
 ·exact e
 ·rw [amp_free i hi j hj e] at h
  cases h
theorem amp_not {i : Nat} (hi : i < 33) (h0 : i ≠ 0) : ampL i ∉ rowsD := by
 intro h
 have e := free_eq allD_free h (cellD_row (i := 32 - i) (by omega)) (by rw [← amp_down i hi (by omega), List.isPrefixOf_iff_prefix]; exact List.prefix_append _ _)
 rw [← amp_down i hi (by omega)] at e
 have := congrArg List.length e
 rw [List.length_append, List.length_singleton] at this
 omega
def noneD (q : List UInt8) : Prop := ∀ i, i < 33 → (ampL i).isPrefixOf q = false
theorem none_nil : noneD [] := by unfold noneD; decide +kernel
theorem row_head {b r : List UInt8} {n : Nat} (hn : n + 1 ≤ b.length) (hno : noneD (b.take n)) (hr : r ∈ rowsD) (hp : (b.take (n + 1)).isPrefixOf r = true) : ∃ i, i < 33 ∧ (b.take (n + 1)).isPrefixOf (ampL i) = true := by
 have hl : (b.take (n + 1)).length = n + 1 := by rw [List.length_take]; omega
 rcases row_amp r hr with rfl | ⟨i, hi, hd, h1⟩
 ·exact ⟨0, by decide, hp⟩
 ·rw [List.mem_range] at hi
  refine ⟨i, hi, ?_⟩
  by_cases hlt : (b.take (n + 1)).length < r.length
  ·rw [← hd]
   exact pre_last hp hlt
  ·exfalso
   have hle := pre_length hp
   have e : b.take (n + 1) = r := by
    have := pre_take.1 hp
    rw [List.take_of_length_le (by omega)] at this
    exact this.symm
   have h2 : (ampL i).isPrefixOf (b.take n) = true := by
    rw [← hd, ← e, List.dropLast_eq_take, List.take_take, hl, show min (n + 1 - 1) (n + 1) = n by omega, pre_refl]
   rw [hno i hi] at h2
   cases h2
theorem dtk_none {b : List UInt8} {k n : Nat} (hn : n + 1 ≤ b.length) (hno : noneD (b.take n)) (h : ∀ i, i < 33 → (b.take (n + 1)).isPrefixOf (ampL i) = false) : tk rowsD b (k + 1) (n + 1) = (3, 0) := by
 refine tk_none hn fun r hr => ?_
 cases hp : (b.take (n + 1)).isPrefixOf r with
 | false => rfl
 | true =>
  obtain ⟨i, hi, h2⟩ := row_head hn hno hr hp
  rw [h i hi] at h2
  cases h2
theorem dtk_more {b : List UInt8} {k n i : Nat} (hn : n + 1 ≤ b.length) (hno : noneD (b.take n)) (hi : i < 33) (h : (b.take (n + 1)).isPrefixOf (ampL i) = true) (hne : lenAt i ≠ n + 1) :
  tk rowsD b (k + 1) (n + 1) = tk rowsD b k (n + 2) ∧ noneD (b.take (n + 1)) := by
 have hl : (b.take (n + 1)).length = n + 1 := by rw [List.length_take]; omega
 have hlt := pre_length h
 rw [hl, ampL_length] at hlt
 have hnone : noneD (b.take (n + 1)) := by
  intro j hj
  cases hp : (ampL j).isPrefixOf (b.take (n + 1)) with
  | false => rfl
  | true =>
   have e := amp_one hj hi (pre_trans hp h)
   subst e
   have := pre_length hp
   rw [hl, ampL_length] at this
   omega
 refine ⟨?_, hnone⟩
 obtain ⟨r, hr, hp⟩ := amp_begins hi
 refine tk_more hn (fun hm => ?_) hr (pre_trans h hp)
 rcases row_amp _ hm with e | ⟨j, hj, hd, _⟩
 ·have := hnone 0 (by decide)
  rw [e, pre_refl] at this
  cases this
 ·have := hno j (List.mem_range.1 hj)
  rw [← hd, List.dropLast_eq_take, List.take_take, hl, show min (n + 1 - 1) (n + 1) = n by omega, pre_refl] at this
  cases this
theorem amp_take {b : List UInt8} {i n : Nat} (hn : n ≤ b.length) (h : (b.take n).isPrefixOf (ampL i) = true) (he : lenAt i = n) : b.take n = ampL i := by
 have := pre_take.1 h
 rw [List.take_of_length_le (by rw [ampL_length, List.length_take]; omega)] at this
 exact this.symm
theorem dtk_zero {b : List UInt8} (hb : b.take (lenAt 0) = ampL 0) : dtk b = (0, 0, 1) := by
 have hp : (ampL 0).isPrefixOf b = true := by rw [← hb]; exact take_pre _ _
 rw [amp_zero] at hp
 have := gtk_row allD_free (cellD_all (i := 32) (by decide)) (by decide +kernel) (by decide +kernel) hp
 rw [show (rowC (cellD 32)).length = 1 by decide +kernel] at this
 exact this
theorem dtk_amp_short {b : List UInt8} {i n : Nat} (hi : i < 33) (h0 : i ≠ 0) (he : lenAt i = n) (hn : n ≤ b.length) (hb : b.take n = ampL i) (ht : tk rowsD b 25 1 = tk rowsD b (26 - n) n) (hs : b.length < n + 1) : dtk b = (0, 2, 0) := by
 have h12 := (amount_fits i hi).2.1
 obtain ⟨r, hr, hp⟩ := amp_begins hi
 refine gtk_not (n := 0) (ht.trans ?_) (by decide)
 rw [show 26 - n = (24 - n) + 1 + 1 by omega, tk_more hn (by rw [hb]; exact amp_not hi h0) hr (by rw [hb]; exact hp)]
 exact tk_short hs
theorem amp_next {b : List UInt8} {i n : Nat} (hn : n < b.length) (hb : b.take n = ampL i) {c : UInt8} (hc : b[n] = c) : b.take (n + 1) = ampL i ++ [c] := by
 rw [List.take_succ_eq_append_getElem hn, hb, hc]
theorem dtk_amp_most {b : List UInt8} {n : Nat} (he : lenAt 32 = n) (hn : n < b.length) (hb : b.take n = ampL 32) (hc : b[n] = 48) (ht : tk rowsD b 25 1 = tk rowsD b (26 - n) n) : dtk b = (0, 3, 0) := by
 have h12 : n ≤ 12 := by rw [← he]; exact (amount_fits 32 (by decide)).2.1
 obtain ⟨r, hr, hp⟩ := amp_begins (i := 32) (by decide)
 refine gtk_not (n := 0) (ht.trans ?_) (by decide)
 rw [show 26 - n = (24 - n) + 1 + 1 by omega, tk_more (by omega) (by rw [hb]; exact amp_not (by decide) (by decide)) hr (by rw [hb]; exact hp)]
 refine tk_none (by omega) fun r hr => ?_
 rw [amp_next hn hb hc]
 exact amp_most r hr
theorem dtk_row {b : List UInt8} {j : Nat} (hj : j < 64) (hp : (rowC (cellD j)).isPrefixOf b = true) : dtk b = ((j : Int) - 32, 0, (rowC (cellD j)).length) := by
 obtain ⟨h1, h2, _⟩ := okRow_inv (allD_ok _ (cellD_all hj))
 exact gtk_row allD_free (cellD_all hj) (by have := List.length_pos_iff.2 h1; omega) h2 hp
theorem dtk_amp_up {b : List UInt8} {i n : Nat} (hi : i < 32) (h0 : 0 < i) (he : lenAt i = n) (hn : n < b.length) (hb : b.take n = ampL i) (hc : b[n] = 48) : dtk b = ((i : Int), 0, n + 1) := by
 have e := amp_up i hi h0
 have hp : (rowC (cellD (32 + i))).isPrefixOf b = true := by rw [← e, ← amp_next hn hb hc]; exact take_pre _ _
 rw [dtk_row (by omega) hp, ← e, List.length_append, ampL_length, he, show ((32 + i : Nat) : Int) - 32 = i by omega]
 rfl
theorem dtk_amp_down {b : List UInt8} {i n : Nat} (hi : i < 33) (h0 : 0 < i) (he : lenAt i = n) (hn : n < b.length) (hb : b.take n = ampL i) (hc : b[n] = 49) : dtk b = (-(i : Int), 0, n + 1) := by
 have e := amp_down i hi h0
 have hp : (rowC (cellD (32 - i))).isPrefixOf b = true := by rw [← e, ← amp_next hn hb hc]; exact take_pre _ _
 rw [dtk_row (by omega) hp, ← e, List.length_append, ampL_length, he, show ((32 - i : Nat) : Int) - 32 = -(i : Int) by omega]
 rfl
end Go.Proofs.YtbgncbhkjndelaaGreatDoor

namespace Go.Proofs.YtbgncbhkjndelaaGreatDoor
open Go.RowKit Go.Lib
def refA : List ByteArray := [⟨#[49]⟩, ⟨#[48, 49]⟩, ⟨#[48, 48, 49]⟩, ⟨#[48, 48, 48, 49]⟩, ⟨#[48, 48, 48, 48, 49, 49]⟩, ⟨#[48, 48, 48, 48, 49, 48, 49]⟩, ⟨#[48, 48, 48, 48, 49, 48, 48]⟩, ⟨#[48, 48, 48, 48, 48, 49, 49]⟩, ⟨#[48, 48, 48, 48, 48, 49, 48, 49, 49]⟩, ⟨#[48, 48, 48, 48, 48, 49, 48, 49, 48]⟩, ⟨#[48, 48, 48, 48, 48, 49, 48, 48, 49]⟩, ⟨#[48, 48, 48, 48, 48, 49, 48, 48, 48, 49]⟩, ⟨#[48, 48, 48, 48, 48, 49, 48, 48, 48, 48]⟩, ⟨#[48, 48, 48, 48, 48, 48, 49, 49, 49, 49]⟩, ⟨#[48, 48, 48, 48, 48, 48, 49, 49, 49, 48]⟩, ⟨#[48, 48, 48, 48, 48, 48, 49, 49, 48, 49]⟩, ⟨#[48, 48, 48, 48, 48, 48, 49, 49, 48, 48]⟩, ⟨#[48, 48, 48, 48, 48, 48, 49, 48, 49, 49]⟩, ⟨#[48, 48, 48, 48, 48, 48, 49, 48, 49, 48]⟩, ⟨#[48, 48, 48, 48, 48, 48, 49, 48, 48, 49]⟩, ⟨#[48, 48, 48, 48, 48, 48, 49, 48, 48, 48]⟩, ⟨#[48, 48, 48, 48, 48, 48, 48, 49, 49, 49]⟩, ⟨#[48, 48, 48, 48, 48, 48, 48, 49, 49, 48]⟩, ⟨#[48, 48, 48, 48, 48, 48, 48, 49, 48, 49]⟩, ⟨#[48, 48, 48, 48, 48, 48, 48, 49, 48, 48]⟩, ⟨#[48, 48, 48, 48, 48, 48, 48, 48, 49, 49, 49]⟩, ⟨#[48, 48, 48, 48, 48, 48, 48, 48, 49, 49, 48]⟩, ⟨#[48, 48, 48, 48, 48, 48, 48, 48, 49, 48, 49]⟩, ⟨#[48, 48, 48, 48, 48, 48, 48, 48, 49, 48, 48]⟩, ⟨#[48, 48, 48, 48, 48, 48, 48, 48, 48, 49, 49]⟩, ⟨#[48, 48, 48, 48, 48, 48, 48, 48, 48, 49, 48]⟩, ⟨#[48, 48, 48, 48, 48, 48, 48, 48, 48, 48, 49, 49]⟩, ⟨#[48, 48, 48, 48, 48, 48, 48, 48, 48, 48, 49, 48]⟩]
theorem refA_len : refA.length = 33 := rfl
theorem refA_rows : ∀ i, (h : i < 33) → (refA[i]'(by rw [refA_len]; exact h)).data.toList = ampL i := by decide +kernel
theorem refA_at {i : Nat} (h : i < 33) : refA[i]'(by rw [refA_len]; exact h) = ⟨(ampL i).toArray⟩ := ba_eq.2 (refA_rows i h)
theorem refA_size {i : Nat} (h : i < 33) : (refA[i]'(by rw [refA_len]; exact h)).size ≤ 12 := by
 rw [refA_at h, size_mk, ampL_length]
 exact (amount_fits i h).2.1
theorem diff_zero : diffAt 0 = ⟨(ampL 0).toArray⟩ := ba_eq.2 amp_zero.symm
theorem diff_up {i : Nat} (h : i < 32) (h0 : 0 < i) : diffAt (i : Int) = ⟨(ampL i).toArray⟩ ++ ⟨#[48]⟩ := by
 rw [show (⟨#[48]⟩ : ByteArray) = ⟨[48].toArray⟩ from rfl, bytes_append, amp_up i h h0]
 refine ba_eq.2 ?_
 show _ = (diffAt (((32 + i : Nat) : Int) - 32)).data.toList
 rw [show ((32 + i : Nat) : Int) - 32 = i by omega]
theorem diff_down {i : Nat} (h : i < 33) (h0 : 0 < i) : diffAt (-(i : Int)) = ⟨(ampL i).toArray⟩ ++ ⟨#[49]⟩ := by
 rw [show (⟨#[49]⟩ : ByteArray) = ⟨[49].toArray⟩ from rfl, bytes_append, amp_down i h h0]
 refine ba_eq.2 ?_
 show _ = (diffAt (((32 - i : Nat) : Int) - 32)).data.toList
 rw [show ((32 - i : Nat) : Int) - 32 = -(i : Int) by omega]
set_option maxRecDepth 100000 in
set_option maxHeartbeats 1000000 in
theorem amounts_page (w : World) : Calls Tryz.prog 49 #[] w fun e w' => e = .returned (.slice (some ⟨w.heap.size, 0, none⟩) 33 33) ∧ Strs w' (some ⟨w.heap.size, 0, none⟩) refA ∧ Below w.heap.size w w' := by
 go_enter Tryz.func49, Tryz.ntmps49
 go_wp2
 go_ret
 exact ⟨rfl, strs_blockP (T := 9) (l := refA) (heap_alloc_new w _), (Below.refl _ w).alloc (Nat.le_refl _) _⟩
set_option maxRecDepth 100000 in
set_option maxHeartbeats 2000000 in
theorem drow_page (d : Int) (w : World) : Calls Tryz.prog 36 #[.int .i64 d] w fun e w' => e = .returned (.string (diffAt d)) ∧ Below w.heap.size w w' := by
 by_cases h0 : d < -32
 ·have F := Lib.hid (diffAt_out (d := d) (.inl h0))
  have t0 : decide (d < -32) = true := by simpa using h0
  clear h0
  rw [F.out]
  go_enter Tryz.func36, Tryz.ntmps36
  go_wp2
  go_ret
  exact ⟨rfl, Below.refl _ _⟩
 by_cases h1 : 31 < d
 ·have F := Lib.hid (diffAt_out (d := d) (.inr h1))
  have t0 : decide (d < -32) = false := by simpa using h0
  have t1 : decide (31 < d) = true := by simpa using h1
  clear h0 h1
  rw [F.out]
  go_enter Tryz.func36, Tryz.ntmps36
  go_wp2
  go_ret
  exact ⟨rfl, Below.refl _ _⟩
 have t0 : decide (d < -32) = false := by simpa using h0
 have t1 : decide (31 < d) = false := by simpa using h1
 by_cases h2 : d < 0
 ·obtain ⟨a, ha⟩ : ∃ a : Nat, (-d).toNat = a := ⟨_, rfl⟩
  have e2 : -d = (a : Int) := by omega
  have hj : a < 33 := by omega
  have F := Lib.hid (show diffAt d = refA[a]'(by rw [refA_len]; exact hj) ++ ⟨#[49]⟩ by rw [refA_at hj, ← diff_down hj (by omega)]; congr 1; omega)
  have t2 : decide (d < 0) = true := by simpa using h2
  obtain ⟨r, hr2⟩ : ∃ r, refA[a]'(by rw [refA_len]; exact hj) = r := ⟨_, rfl⟩
  have hsz := refA_size hj
  rw [hr2] at F hsz
  clear h0 h1 h2 ha
  rw [F.out]
  go_enter Tryz.func36, Tryz.ntmps36
  go_wp2_with fail
  refine (amounts_page _).mono ?_
  rintro e w1 ⟨rfl, hst, hb⟩
  obtain ⟨b, o, e, _, hc⟩ := hst.at (by rw [refA_len]; omega)
  cases e
  have c0 : w1.cell? ⟨w.heap.size, 0 + a, none⟩ = some (.string r) := (hc a hj).trans (congrArg (fun x => some (Value.string x)) hr2)
  rw [Nat.zero_add] at c0
  clear hc
  go_wp2
  go_ret
  exact ⟨rfl, hb⟩
 ·have t2 : decide (d < 0) = false := by simpa using h2
  by_cases h3 : 0 < d
  ·obtain ⟨a, ha⟩ : ∃ a : Nat, d.toNat = a := ⟨_, rfl⟩
   obtain rfl : d = (a : Int) := by omega
   have hj : a < 33 := by omega
   have ha0 : 0 < a := by omega
   have F := Lib.hid (show diffAt (a : Int) = refA[a]'(by rw [refA_len]; exact hj) ++ ⟨#[48]⟩ by rw [refA_at hj, ← diff_up (by omega) ha0])
   obtain ⟨r, hr2⟩ : ∃ r, refA[a]'(by rw [refA_len]; exact hj) = r := ⟨_, rfl⟩
   have hsz := refA_size hj
   rw [hr2] at F hsz
   clear h0 h1 h2 h3 ha
   rw [F.out]
   go_enter Tryz.func36, Tryz.ntmps36
   go_wp2_with fail
   refine (amounts_page _).mono ?_
   rintro e w1 ⟨rfl, hst, hb⟩
   obtain ⟨b, o, e, _, hc⟩ := hst.at (by rw [refA_len]; omega)
   cases e
   have c0 : w1.cell? ⟨w.heap.size, 0 + a, none⟩ = some (.string r) := (hc a hj).trans (congrArg (fun x => some (Value.string x)) hr2)
   rw [Nat.zero_add] at c0
   clear hc
   go_wp2
   go_ret
   exact ⟨rfl, hb⟩
  ·obtain rfl : d = 0 := by omega
   have F := Lib.hid (show diffAt 0 = refA[0]'(by decide) by rw [refA_at (by decide), diff_zero])
   clear h0 h1 h2 h3 t0 t1 t2
   rw [F.out]
   go_enter Tryz.func36, Tryz.ntmps36
   go_wp2_with fail
   refine (amounts_page _).mono ?_
   rintro e w1 ⟨rfl, hst, hb⟩
   obtain ⟨b, o, e, _, hc⟩ := hst.at (by rw [refA_len]; omega)
   cases e
   have c0 := hc 0 (by decide)
   rw [Nat.zero_add] at c0
   clear hc
   go_wp2
   go_ret
   exact ⟨rfl, hb⟩
def strD (i : Nat) : List ByteArray := (List.range i).map fun j => (cellD j).1
theorem strD_len (i : Nat) : (strD i).length = i := by simp [strD]
theorem strD_more (i : Nat) : strD (i + 1) = strD i ++ [(cellD i).1] := by
 unfold strD
 rw [List.range_succ, List.map_append]
 rfl
theorem strD_rows : (strD 64).map (fun x => x.data.toList) = rowsD := by
 unfold strD rowsD allD
 rw [List.map_map, List.map_map]
 rfl
theorem strD_get {i : Nat} (h : i < (strD 64).length) : (strD 64)[i].data.toList = rowC (cellD i) := by
 have : (strD 64)[i] = (cellD i).1 := by simp [strD]
 rw [this]
 rfl
def DRTake (b : List UInt8) (at_ : Nat) (w : World) (e : Ending) (w' : World) : Prop :=
 e = .returned (.tuple #[.int .i64 (dtk b).1, .int .i64 ((at_ + (dtk b).2.2 : Nat) : Int), .int .i64 (dtk b).2.1]) ∧ Below w.heap.size w w'
theorem drtake_at {bs : List UInt8} {at_ n z : Nat} {w w' : World} {a f : Int} (h : dtk bs = (a, f, n)) (ht : at_ + n = z) (hb : Below w.heap.size w w') :
  DRTake bs at_ w (.returned (.tuple #[.int .i64 a, .int .i64 (z : Int), .int .i64 f])) w' := by
 subst ht
 unfold DRTake
 rw [h]
 exact ⟨rfl, hb⟩
set_option maxRecDepth 100000 in
set_option maxHeartbeats 4000000 in
theorem drtake_page (s : ByteArray) (at_ : Nat) (w : World) (hs : s.size ≤ 1048576) (ha : at_ ≤ s.size) :
  Calls Tryz.prog 19 #[.string s, .int .i64 (at_ : Int)] w (DRTake (s.data.toList.drop at_) at_ w) := by
 obtain ⟨i0, hi, jz0, jz1, jz2⟩ := info_parts info_str
 obtain ⟨bs, hbs⟩ : ∃ bs, s.data.toList.drop at_ = bs := ⟨_, rfl⟩
 have hcon := fun (q : Option Addr) (cq : Nat) (x : World) (hq : Strs x q (strD 64)) => tref0_page (strD 64) q cq s at_ x hq (by rw [strD_len]; decide) hs ha
 rw [strD_len] at hcon
 rw [hbs] at hcon ⊢
 clear hbs
 obtain ⟨f, n, hk⟩ : ∃ f n, tk rowsD bs 25 1 = (f, n) := ⟨_, _, rfl⟩
 have hcd := tk_codes rowsD bs 25 1
 have HK := Lib.hid hk
 have HR : Hid (tk ((strD 64).map fun x => x.data.toList) bs 25 1 = (f, n)) := Lib.hid (by rw [strD_rows]; exact hk)
 rw [hk] at hcd
 have HCD := Lib.hid hcd
 have HCON := Lib.hid hcon
 clear hk hcd hcon
 obtain ⟨B, hB⟩ : ∃ B, w.heap.size = B := ⟨_, rfl⟩
 have HB := Lib.hid hB
 have hb0 : Below B w w := Below.refl _ _
 have hz0 : B ≤ w.heap.size := by omega
 have hown0 : w.ownsRow B 9 1 (.slice none 0 0) 0 (strCells (strD 0)) := World.ownsRow_nil _ _ _ _
 clear hB
 go_enter Tryz.func19, Tryz.ntmps19
 go_wp2
 go_loopw [7, 8] (fun u v wr => ∃ i : Nat, i ≤ 64 ∧ v = .int .i64 ((i : Int) - 32) ∧ wr.ownsRow B 9 1 u i (strCells (strD i)) ∧ Below B w wr ∧ B ≤ wr.heap.size) (fun _ v _ => (32 - intOf v).toNat)
 case atStart => exact ⟨0, by omega, rfl, hown0, hb0, hz0⟩
 case round =>
  clear hown0 hb0 hz0
  obtain ⟨i, hi64, rfl, hu, hb, hz⟩ := hrel
  by_cases hlt : i < 64
  ·have hcon := fun (x : World) => drow_page ((i : Int) - 32) x
   obtain ⟨y, hy⟩ : ∃ y, diffAt ((i : Int) - 32) = y := ⟨_, rfl⟩
   have SM := Lib.hid (show strCells (strD (i + 1)) = strCells (strD i) ++ [.string y] by rw [strD_more, strCells_snoc, ← hy]; rfl)
   rw [hy] at hcon
   have t0 : decide ((i : Int) - 32 ≤ 31) = true := by simp; omega
   clear hy
   have hun : ∀ x, Below wr.heap.size wr x → x.ownsRow B 9 1 u7 i (strCells (strD i)) := fun x hx => hu.kept (below_grownBy hx none) (Classical.em _)
   have UN := Lib.hid hun
   have hw : IntKind.i64.wrap ((i : Int) - 32 + 1) = ((i + 1 : Nat) : Int) - 32 := (IntWalk.i64_in _ (by omega)).trans (by omega)
   clear hu hun
   go_wp2_with (first
    | (go_at_call 36; refine (hcon _).mono ?_; rintro e w1 ⟨rfl, hb1⟩; have hu1 := UN.out _ hb1; have hb2 := hb.trans (hb1.mono hz); have hz2 : B ≤ w1.heap.size := Nat.le_trans hz hb1.size)
    | (at_builtin; refine wp_append_str (y0 := y) rfl rfl Tryz.underlying74 hi jz0 rfl jz1 jz2 rfl (hu1.alloc _) rfl ?d1 ?d2 ?d3 ?_; (case d1 => go_cell); (case d2 => omega); (case d3 => (simp; omega)); intro v2 w2 hu4 hgrow; have hg4 : World.grownBy _ w2 (Value.ownBlock u7) := hgrow; have hb4 := (hb2.alloc hz2 _).grown hg4 (by simp; omega) (owns_fresh hu1); have hz4 : B ≤ w2.heap.size := Nat.le_trans (by simp; omega) hg4.size; clear hgrow))
   go_roundw
   case rel => exact ⟨i + 1, by omega, by go_num, by rw [SM.out]; exact hu4, hb4, hz4⟩
   case measure => simp [intOf]; omega
  ·obtain rfl : i = 64 := by omega
   have hu' : wr.ownsRow B 9 1 u7 (strD 64).length (strCells (strD 64)) := by rw [strD_len]; exact hu
   obtain ⟨q, cq, rfl, hq⟩ := owns_strs hu'
   rw [strD_len]
   have t0 : decide (((64 : Nat) : Int) - 32 ≤ 31) = false := by decide
   clear hu hu'
   by_cases h0 : f = 0
   ·subst h0
    go_wp2_with fail
    refine (HCON.out _ _ _ hq).mono ?_
    rintro e w2 ⟨j, rfl, hj0, _, hb2⟩
    rw [HR.out] at hj0 ⊢
    obtain ⟨hjl, hjr⟩ := hj0 rfl
    have hj64 : j < 64 := by rw [strD_len] at hjl; exact hjl
    have F := Lib.hid (gtk_yes allD_free HK.out (cellD_all hj64) (by rw [← strD_get hjl]; exact hjr))
    have hb3 := hb.trans (hb2.mono hz)
    clear hjr hj0
    go_wp2
    go_ret3
    exact drtake_at F.out rfl (by rw [HB.out]; exact hb3)
   ·have hn : n = 0 := by
     rcases HCD.out with h | h | h
     ·exact absurd h h0
     ·exact h.2
     ·exact h.2
    subst hn
    have F := Lib.hid (gtk_not (all := allD) HK.out h0)
    have g0 : (f == 0) = false := by rw [beq_eq_false_iff_ne]; exact h0
    have H0 := Lib.hid h0
    clear h0
    go_wp2_with fail
    refine (HCON.out _ _ _ hq).mono ?_
    rintro e w2 ⟨j, rfl, _, hj0, hb2⟩
    rw [HR.out] at hj0 ⊢
    obtain rfl := hj0 H0.out
    have hb3 := hb.trans (hb2.mono hz)
    clear hj0
    go_wp2
    go_ret3
    exact drtake_at F.out (Nat.add_zero _) (by rw [HB.out]; exact hb3)
end Go.Proofs.YtbgncbhkjndelaaGreatDoor
