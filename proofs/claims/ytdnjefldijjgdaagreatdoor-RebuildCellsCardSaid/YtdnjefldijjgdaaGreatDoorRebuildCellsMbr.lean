/- No condition. -/
import Derived.Test.YtdnjefldijjgdaaGreatDoorRebuildCellsMbb
import Derived.Test.YtdnjefldijjgdaaGreatDoorRows
import Derived.Great.BuildSlice
namespace Go.Proofs.YtdnjefldijjgdaaGreatDoor
open Go.RowKit Go.Lib
theorem Yq3:(Rows.laid_overspill_dct_weights:DataW Unit)=tabData .i64 wtZ:=by kernel_rfl
theorem Yq2 {laid : List (String × DataW Unit)} {W : World} (hL : laidMetH Tryz.prog laid W) (hm : ("overspill/dct.weights", Rows.laid_overspill_dct_weights) ∈ laid ∧ (laid.all fun x => x.2.handleName?.isNone) = true) : Ycw W := by
 rw[MakeChecks.laidMetH_plain _ _ _ hm.2] at hL;obtain⟨ps,hv,_,_⟩:=hL;have h1:=hm.1;rw[Yq3] at h1;have hlc:wtZ.length=64:=rfl;intro i hi;have g1:=Yjm hv h1 (g:=0) (t:=36) (by kernel_rfl) (by kernel_rfl) Tryz.underlying36 Tryz.underlying3 (by kernel_rfl) (by kernel_rfl) i (by rw[hlc];exact hi);rw[g1];unfold wt;rw[List.getElem?_eq_getElem (by rw[hlc];exact hi)]
 rfl
end Go.Proofs.YtdnjefldijjgdaaGreatDoor