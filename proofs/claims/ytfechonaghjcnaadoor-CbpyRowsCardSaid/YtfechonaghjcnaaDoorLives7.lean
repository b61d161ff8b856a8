/- The example of chapter 7 comes out; and what a row's condition on the listed variables gives: package cbpy's variable holds its table. Condition: the variable holds its table. -/
import Derived.Test.YtfechonaghjcnaaDoorPtake
import Derived.Test.YtfechonaghjcnaaDoorPref
import Derived.Test.YtfechonaghjcnaaDoorRows
namespace Go.Proofs.YtfechonaghjcnaaDoor
open Go.RowKit Go.Lib

/-! ### The listed variable -/
theorem laid_one {P : Program} {W : World} {n : String} {d : DataW Unit} : ∀ {l : List (String × DataW Unit)} {ps : List MemPlace}, DataW.LaidVars P W l ps → (n, d) ∈ l →
    ∃ g t cs fuel p, P.globalNamed n = some g ∧ (P.globals[g]?).map (·.type) = some t ∧ W.var? P n = some cs ∧ DataW.trod (fun _ => ()) P W 0 (fun _ => true) false fuel t cs.toList = some (d, p)
  | [], _, _, hm => by cases hm
  | (m, e) :: l, ps, h, hm => by
    obtain ⟨g, t, cs, fuel, p, q, h1, h2, h3, h4, h5, _⟩ := h
    rcases List.mem_cons.1 hm with hm | hm
    · cases hm
      exact ⟨g, t, cs, fuel, p, h1, h2, h3, h4⟩
    · exact laid_one h5 hm
theorem pats_text : (Rows.laid_overspill_cbpy_rows : DataW Unit) = .agg ((patL.map fun x => x.data.toList).map fun l => .lit (.string l)) := by kernel_rfl
theorem pats_laid {laid : List (String × DataW Unit)} {W : World} (hL : laidMetH Tryd.prog laid W) (hm : ("overspill/cbpy.rows", Rows.laid_overspill_cbpy_rows) ∈ laid ∧ (laid.all fun x => x.2.handleName?.isNone) = true) : HasPats W := by
  rw [MakeChecks.laidMetH_plain _ _ _ hm.2] at hL
  obtain ⟨ps, hv, _, _⟩ := hL
  obtain ⟨g, t, cs, fuel, p, hg, ht, hc, hd⟩ := laid_one hv hm.1
  obtain rfl := Option.some.inj ((show Tryd.prog.globalNamed "overspill/cbpy.rows" = some 0 by kernel_rfl).symm.trans hg)
  obtain rfl := Option.some.inj ((show (Tryd.prog.globals[0]?).map (·.type) = some 40 by kernel_rfl).symm.trans ht)
  rw [pats_text] at hd
  intro i hi
  obtain ⟨s, h1, h2⟩ := cells_of_texts Tryd.underlying40 Tryd.underlying9 (by kernel_rfl) (by kernel_rfl) hd i hi
  have hcell := World.var?_cell hg hc i
  have hs : s = patL[i]'(by rw [patL_len]; exact hi) := by
    rw [List.getElem?_map, List.getElem?_eq_getElem (by rw [patL_len]; exact hi)] at h2
    apply ByteArray.ext
    apply Array.ext'
    exact (Option.some.inj h2).symm
  rw [hcell, ← hs, ← Array.getElem?_toList]
  exact h1

/-! ### The example -/
theorem lives7_tk : ptk true ((showL [192]).drop 0) = (15, 0, 2) := by decide +kernel
theorem lives7_row : patAt true 15 = ⟨#[49, 49]⟩ ∧ patAt false 15 = ⟨#[48, 48, 49, 49]⟩ := by decide +kernel
theorem below_ownP {B rb : Nat} {w x y : World} (h : Below B w x) (hz : B ≤ x.heap.size) (hg : x.grownBy y (some rb)) (hrb : B ≤ rb) : Below B w y ∧ B ≤ y.heap.size :=
  ⟨h.grown hg hz (fun k e => by injection e with e; omega), Nat.le_trans hz hg.size⟩
set_option maxRecDepth 100000 in
set_option maxHeartbeats 4000000 in
theorem lives7 (w : World) (hp : HasPats w) : Calls Tryd.prog 8 #[] w fun e w' => e = .returned (.bool true) ∧ Below w.heap.size w w' := by
  have T1 := Lib.hid lives7_tk
  obtain ⟨r1, r2⟩ := lives7_row
  have R1 := Lib.hid r1
  have R2 := Lib.hid r2
  have HP : ∀ x, Below w.heap.size w x → HasPats x := fun x hx => hp.below hx
  clear r1 r2
  go_enter Tryd.func8, Tryd.ntmps8
  go_wp2_with fail
  refine (prow_code true 15 _ hp).mono ?_
  rintro e w1 ⟨rfl, hb1⟩
  rw [R1.out]
  go_wp2_with fail
  refine (prow_code false 15 _ (HP _ hb1)).mono ?_
  rintro e w2 ⟨rfl, hb2⟩
  rw [R2.out]
  have hb3 := hb1.trans (hb2.mono hb1.size)
  have hz3 := hb3.size
  clear hb1 hb2
  go_wp2_with fail
  refine (rnew_code _ _).mono ?_
  rintro e w3 ⟨rfl, rfl⟩
  obtain ⟨R, hR⟩ : ∃ R, w2.heap.size = R := ⟨_, rfl⟩
  have hr1 : IsRd (w2.alloc (rdObj ⟨#[192]⟩ 0)) R ⟨#[192]⟩ 0 := IsRd.fresh hR (by decide)
  have hb4 : Below w.heap.size w (w2.alloc (rdObj ⟨#[192]⟩ 0)) := hb3.alloc hz3 _
  have hz4 : w.heap.size ≤ (w2.alloc (rdObj ⟨#[192]⟩ 0)).heap.size := hb4.size
  rw [hR] at hz3 ⊢
  generalize w2.alloc (rdObj ⟨#[192]⟩ 0) = x1 at hr1 hb4 hz4 ⊢
  clear hb3 hR
  go_wp2_with fail
  refine (ptake_code true _ R _ 0 (HP _ hb4) hr1).mono ?_
  rintro e x2 ⟨rfl, hr2, hg2⟩
  obtain ⟨hb5, hz5⟩ := below_ownP hb4 hz4 hg2 hz3
  rw [show (⟨#[192]⟩ : ByteArray).data.toList = [192] from rfl, T1.out]
  clear hr1 hb4 hz4 hr2 hg2 hz3
  go_wp2
  go_ret
  exact ⟨rfl, hb5⟩
end Go.Proofs.YtfechonaghjcnaaDoor
