/- The examples of chapter 9 come out; and what a row's condition on the listed variables gives: package tcoef's variables hold their tables. Condition: the variables hold their tables. -/
import Derived.Test.YtologhgoojkpmaaDoorEtake
import Derived.Test.YtologhgoojkpmaaDoorRows
import Derived.Test.YtologhgoojkpmaaDoorLaws
import Derived.Test.YtologhgoojkpmaaDoorOpen
namespace Go.Proofs.YtologhgoojkpmaaDoor
open Go.RowKit Go.Lib Go.ChangeShapes Go.WideShapes Go.ChangeAt

/-! ### The listed variables -/
theorem tcoef_text : (Rows.laid_overspill_tcoef_codes : DataW Unit) = tabData .u16 (codeZT.map fun z : Nat => (z : Int)) ∧ (Rows.laid_overspill_tcoef_lengths : DataW Unit) = tabData .u8 (lenZT.map fun z : Nat => (z : Int)) ∧ (Rows.laid_overspill_tcoef_ahead : DataW Unit) = tabData .u8 (aheadZT.map fun z : Nat => (z : Int)) := ⟨by kernel_rfl, by kernel_rfl, by kernel_rfl⟩
theorem nat_at (l : List Nat) (i : Nat) (h : i < (l.map fun z : Nat => (z : Int)).length) : (l.map fun z : Nat => (z : Int))[i] = ((l[i]?.getD 0 : Nat) : Int) := by
  have h2 : i < l.length := by simpa using h
  rw [List.getElem_map, List.getElem?_eq_getElem h2]
  rfl
/-- A listed variable that is a table of numbers holds them, cell for cell. -/
theorem nums_laid {P : Program} {W : World} {laid : List (String × DataW Unit)} {ps : List MemPlace} {name : String} {k : IntKind} {zs : List Int} {g : Nat} {t e : TypeId} {n : Nat} (hv : DataW.LaidVars P W laid ps) (hm : (name, (tabData k zs : DataW Unit)) ∈ laid)
    (hg : P.globalNamed name = some g) (ht : (P.globals[g]?).map (·.type) = some t) (hu : P.underlying t = some (.array n e)) (he : P.underlying e = some (.int k)) (hce : P.cellsOf e = 1) (hct : P.cellsOf t = n) (i : Nat) (hi : i < zs.length) :
    W.cell? ⟨g, i, none⟩ = some (.int k zs[i]) := by
  obtain ⟨g', t', cs, fuel, p, hg', ht', hc, hd⟩ := laid_one hv hm
  obtain rfl := Option.some.inj (hg.symm.trans hg')
  obtain rfl := Option.some.inj (ht.symm.trans ht')
  have h1 := cells_of_tab hu he hce hct hd
  have hcell := World.var?_cell hg hc i
  rw [hcell, ← Array.getElem?_toList, h1, List.getElem?_map, List.getElem?_eq_getElem hi]
  rfl
theorem tcoef_laid {laid : List (String × DataW Unit)} {W : World} (hL : laidMetH Tryd.prog laid W) (hm : (("overspill/tcoef.codes", Rows.laid_overspill_tcoef_codes) ∈ laid ∧ ("overspill/tcoef.lengths", Rows.laid_overspill_tcoef_lengths) ∈ laid ∧ ("overspill/tcoef.ahead", Rows.laid_overspill_tcoef_ahead) ∈ laid) ∧ (laid.all fun x => x.2.handleName?.isNone) = true) : HasT W := by
  rw [MakeChecks.laidMetH_plain _ _ _ hm.2] at hL
  obtain ⟨ps, hv, _, _⟩ := hL
  obtain ⟨h1, h2, h3⟩ := hm.1
  rw [tcoef_text.1] at h1
  rw [tcoef_text.2.1] at h2
  rw [tcoef_text.2.2] at h3
  have hlc : (codeZT.map fun z : Nat => (z : Int)).length = 103 := rfl
  have hll : (lenZT.map fun z : Nat => (z : Int)).length = 103 := rfl
  have hla : (aheadZT.map fun z : Nat => (z : Int)).length = 11 := rfl
  refine ⟨fun i hi => ?_, fun i hi => ?_⟩
  · have g1 := nums_laid hv h1 (g := 0) (t := 119) (by kernel_rfl) (by kernel_rfl) Tryd.underlying119 Tryd.underlying118 (by kernel_rfl) (by kernel_rfl) i (by rw [hlc]; exact hi)
    have g2 := nums_laid hv h2 (g := 1) (t := 120) (by kernel_rfl) (by kernel_rfl) Tryd.underlying120 Tryd.underlying5 (by kernel_rfl) (by kernel_rfl) i (by rw [hll]; exact hi)
    rw [nat_at] at g1 g2
    exact ⟨g1, g2⟩
  · have g3 := nums_laid hv h3 (g := 2) (t := 125) (by kernel_rfl) (by kernel_rfl) Tryd.underlying125 Tryd.underlying5 (by kernel_rfl) (by kernel_rfl) i (by rw [hla]; exact hi)
    rw [nat_at] at g3
    exact g3


/-! ### The examples -/
theorem ev_a : eventAt false 0 1 = ⟨#[49, 48, 48]⟩ ∧ eventAt false 0 13 = ⟨#[48, 48, 48, 48, 48, 49, 49, 48, 48, 48, 48, 48, 48, 48, 48, 48, 48, 48, 49, 49, 48, 49]⟩ ∧ etk (showL [120]) = ((true, 0, -1), 0, 5) := by decide +kernel
end Go.Proofs.YtologhgoojkpmaaDoor
