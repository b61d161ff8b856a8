/- The example of chapter 11 comes out; and what a row's condition on the listed variable gives: package scan's variable holds its table. Condition: the variable holds its table. -/
import Derived.Test.YtefoiijpgpjooaaDoorScan
import Derived.Test.YtefoiijpgpjooaaDoorRows
namespace Go.Proofs.YtefoiijpgpjooaaDoor
open Go.RowKit Go.Lib

theorem scan_text : (Rows.laid_overspill_scan_places : DataW Unit) = tabData .i64 (placeZ.map fun z : Nat => (z : Int)) := by kernel_rfl
theorem nat_at (l : List Nat) (i : Nat) (h : i < (l.map fun z : Nat => (z : Int)).length) : (l.map fun z : Nat => (z : Int))[i] = ((l[i]?.getD 0 : Nat) : Int) := by
  have h2 : i < l.length := by simpa using h
  rw [List.getElem_map, List.getElem?_eq_getElem h2]
  rfl
theorem scan_laid {laid : List (String × DataW Unit)} {W : World} (hL : laidMetH Tryd.prog laid W) (hm : ("overspill/scan.places", Rows.laid_overspill_scan_places) ∈ laid ∧ (laid.all fun x => x.2.handleName?.isNone) = true) : HasScan W := by
  rw [MakeChecks.laidMetH_plain _ _ _ hm.2] at hL
  obtain ⟨ps, hv, _, _⟩ := hL
  have h1 := hm.1
  rw [scan_text] at h1
  have hlc : (placeZ.map fun z : Nat => (z : Int)).length = 64 := rfl
  intro i hi
  have g1 := ints_laid hv h1 (g := 0) (t := 25) (by kernel_rfl) (by kernel_rfl) Tryd.underlying25 Tryd.underlying3 (by kernel_rfl) (by kernel_rfl) i (by rw [hlc]; exact hi)
  rw [nat_at] at g1
  exact g1
theorem lives_at : atV 9 = (24, true) ∧ ofV 8 = (2, true) := by decide +kernel
set_option maxRecDepth 100000 in
set_option maxHeartbeats 1000000 in
theorem lives11 (w : World) (hp : HasScan w) : Calls Tryd.prog 8 #[] w fun e w' => e = .returned (.bool true) ∧ w = w' := by
  have h1 := sat_code 9 w hp
  have h2 := sof_code 8 w hp
  rw [lives_at.1] at h1
  rw [lives_at.2] at h2
  clear hp
  go_enter Tryd.func8, Tryd.ntmps8
  go_wp2_with fail
  refine h1.mono ?_
  rintro e w1 ⟨rfl, rfl⟩
  go_wp2_with fail
  refine h2.mono ?_
  rintro e w1 ⟨rfl, rfl⟩
  go_wp2
  go_ret
  exact ⟨rfl, rfl⟩
end Go.Proofs.YtefoiijpgpjooaaDoor
