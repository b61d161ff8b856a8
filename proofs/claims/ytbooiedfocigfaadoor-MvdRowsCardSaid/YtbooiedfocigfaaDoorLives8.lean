/- The example of chapter 8 comes out; and what a row's condition on the listed variables gives: package mvd's variables hold their tables. Condition: the variables hold their tables. -/
import Derived.Test.YtbooiedfocigfaaDoorDget
import Derived.Test.YtbooiedfocigfaaDoorDref
import Derived.Test.YtbooiedfocigfaaDoorRows
namespace Go.Proofs.YtbooiedfocigfaaDoor
open Go.RowKit Go.Lib

/-! ### The listed variables -/
theorem mvd_text : (Rows.laid_overspill_mvd_codes : DataW Unit) = tabData .i64 (codeZ.map fun z : Nat => (z : Int)) ∧ (Rows.laid_overspill_mvd_lengths : DataW Unit) = tabData .i64 (lenZ.map fun z : Nat => (z : Int)) := ⟨by kernel_rfl, by kernel_rfl⟩
theorem nat_at (l : List Nat) (i : Nat) (h : i < (l.map fun z : Nat => (z : Int)).length) : (l.map fun z : Nat => (z : Int))[i] = ((l[i]?.getD 0 : Nat) : Int) := by
  have h2 : i < l.length := by simpa using h
  rw [List.getElem_map, List.getElem?_eq_getElem h2]
  rfl
theorem mvd_laid {laid : List (String × DataW Unit)} {W : World} (hL : laidMetH Tryd.prog laid W) (hm : (("overspill/mvd.codes", Rows.laid_overspill_mvd_codes) ∈ laid ∧ ("overspill/mvd.lengths", Rows.laid_overspill_mvd_lengths) ∈ laid) ∧ (laid.all fun x => x.2.handleName?.isNone) = true) : HasMvd W := by
  rw [MakeChecks.laidMetH_plain _ _ _ hm.2] at hL
  obtain ⟨ps, hv, _, _⟩ := hL
  obtain ⟨h1, h2⟩ := hm.1
  rw [mvd_text.1] at h1
  rw [mvd_text.2] at h2
  have hlc : (codeZ.map fun z : Nat => (z : Int)).length = 33 := rfl
  have hll : (lenZ.map fun z : Nat => (z : Int)).length = 33 := rfl
  intro i hi
  have g1 := ints_laid hv h1 (g := 1) (t := 51) (by kernel_rfl) (by kernel_rfl) Tryd.underlying51 Tryd.underlying3 (by kernel_rfl) (by kernel_rfl) i (by rw [hlc]; exact hi)
  have g2 := ints_laid hv h2 (g := 0) (t := 51) (by kernel_rfl) (by kernel_rfl) Tryd.underlying51 Tryd.underlying3 (by kernel_rfl) (by kernel_rfl) i (by rw [hll]; exact hi)
  rw [nat_at] at g1 g2
  exact ⟨g1, g2⟩

/-! ### The example -/
theorem lives8_tk : dtk ((showL [96]).drop 0) = (-1, 0, 3) := by decide +kernel
theorem lives8_row : diffAt (-1) = ⟨#[48, 49, 49]⟩ ∧ diffAt 32 = ⟨#[]⟩ := by decide +kernel
set_option maxRecDepth 100000 in
set_option maxHeartbeats 4000000 in
theorem lives8 (w : World) (hp : HasMvd w) : Calls Tryd.prog 8 #[] w fun e w' => e = .returned (.bool true) ∧ Below w.heap.size w w' := by
  have T1 := Lib.hid lives8_tk
  obtain ⟨r1, r2⟩ := lives8_row
  have R1 := Lib.hid r1
  have R2 := Lib.hid r2
  have HP : ∀ x, Below w.heap.size w x → HasMvd x := fun x hx => hp.below hx
  clear r1 r2
  go_enter Tryd.func8, Tryd.ntmps8
  go_wp2_with fail
  refine (drow_code (-1) _ hp).mono ?_
  rintro e w1 ⟨rfl, hb1⟩
  rw [R1.out]
  go_wp2_with fail
  refine (drow_code 32 _ (HP _ hb1)).mono ?_
  rintro e w2 ⟨rfl, hb2⟩
  rw [R2.out]
  have hb3 := hb1.trans (hb2.mono hb1.size)
  have hz3 := hb3.size
  clear hb1 hb2
  go_wp2_with fail
  refine (rnew_code _ _).mono ?_
  rintro e w3 ⟨rfl, rfl⟩
  obtain ⟨R, hR⟩ : ∃ R, w2.heap.size = R := ⟨_, rfl⟩
  have hr1 : IsRd (w2.alloc (rdObj ⟨#[96]⟩ 0)) R ⟨#[96]⟩ 0 := IsRd.fresh hR (by decide)
  have hb4 : Below w.heap.size w (w2.alloc (rdObj ⟨#[96]⟩ 0)) := hb3.alloc hz3 _
  have hz4 : w.heap.size ≤ (w2.alloc (rdObj ⟨#[96]⟩ 0)).heap.size := hb4.size
  rw [hR] at hz3 ⊢
  generalize w2.alloc (rdObj ⟨#[96]⟩ 0) = x1 at hr1 hb4 hz4 ⊢
  clear hb3 hR
  go_wp2_with fail
  refine (dget_code _ R _ 0 (HP _ hb4) hr1).mono ?_
  rintro e x2 ⟨rfl, hr2, hg2⟩
  obtain ⟨hb5, hz5⟩ := below_ownP hb4 hz4 hg2 hz3
  rw [show (⟨#[96]⟩ : ByteArray).data.toList = [96] from rfl, T1.out]
  clear hr1 hb4 hz4 hr2 hg2 hz3
  go_wp2
  go_ret
  exact ⟨rfl, hb5⟩
end Go.Proofs.YtbooiedfocigfaaDoor
