/- No condition. -/
import Derived.Test.YtdnjefldijjgdaaDoorRebuildSkipsMq
import Derived.Test.YtdnjefldijjgdaaDoorRebuildSkipsMbn
import Derived.Test.YtdnjefldijjgdaaDoorRebuildSkipsMbo
namespace Go.Proofs.YtdnjefldijjgdaaDoor
open Go.RowKit Go.Lib Go.ChangeShapes Go.WideShapes Go.ChangeAt
def Yqm (w:World):Prop:=Yd5 w∧Yba w∧Ybg w∧Yb3 w
theorem Yqm.below {w x:World}(h:Yqm w)(hb:Below w.heap.size w x):Yqm x:=⟨h.1.below hb,h.2.1.below hb,h.2.2.1.below hb,h.2.2.2.below hb⟩
theorem Yp6 {laid:List (String×DataW Unit)}{W:World}(hL:laidMetH Tryd.prog laid W)
  (hm : ((("overspill/steps.codes", Rows.laid_overspill_steps_codes) ∈ laid ∧
   (("overspill/tcoef.codes", Rows.laid_overspill_tcoef_codes) ∈ laid ∧ ("overspill/tcoef.lengths", Rows.laid_overspill_tcoef_lengths) ∈ laid ∧ ("overspill/tcoef.ahead", Rows.laid_overspill_tcoef_ahead) ∈ laid)) ∧ ("overspill/scan.places", Rows.laid_overspill_scan_places) ∈ laid ∧ ("overspill/dct.weights", Rows.laid_overspill_dct_weights) ∈ laid) ∧ (laid.all fun x => x.2.handleName?.isNone) = true) : Yqm W :=
 ⟨(Ykd hL ⟨hm.1.1,hm.2⟩).1,(Ykd hL ⟨hm.1.1,hm.2⟩).2,Yn2 hL ⟨hm.1.2.1,hm.2⟩,Yo0 hL ⟨hm.1.2.2,hm.2⟩⟩
end Go.Proofs.YtdnjefldijjgdaaDoor