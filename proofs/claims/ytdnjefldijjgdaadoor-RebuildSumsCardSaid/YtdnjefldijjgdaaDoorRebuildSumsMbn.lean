/- No condition. -/
import Derived.Test.YtdnjefldijjgdaaDoorRebuildSumsMba
import Derived.Test.YtdnjefldijjgdaaDoorRows
import Derived.Great.BuildSlice
namespace Go.Proofs.YtdnjefldijjgdaaDoor
open Go.RowKit Go.Lib
theorem Ynl:(Rows.laid_overspill_dct_weights:DataW Unit)=tabData .i64 wtZ:=by kernel_rfl
theorem Ynk {laid : List (String × DataW Unit)} {W : World} (hL : laidMetH Tryd.prog laid W) (hm : ("overspill/dct.weights", Rows.laid_overspill_dct_weights) ∈ laid ∧ (laid.all fun x => x.2.handleName?.isNone) = true) : Yby W := by
 rw[MakeChecks.laidMetH_plain _ _ _ hm.2] at hL;obtain⟨ps,hv,_,_⟩:=hL;have h1:=hm.1;rw[Ynl] at h1;have hlc:wtZ.length=64:=rfl;intro i hi;have g1:=Yg8 hv h1 (g:=0) (t:=22) (by kernel_rfl) (by kernel_rfl) Tryd.underlying22 Tryd.underlying3 (by kernel_rfl) (by kernel_rfl) i (by rw[hlc];exact hi);rw[g1];unfold wt;rw[List.getElem?_eq_getElem (by rw[hlc];exact hi)]
 rfl
end Go.Proofs.YtdnjefldijjgdaaDoor