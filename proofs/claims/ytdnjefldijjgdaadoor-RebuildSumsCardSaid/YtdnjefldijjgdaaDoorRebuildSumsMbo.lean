/- No condition. -/
import Derived.Test.YtdnjefldijjgdaaDoorRebuildSumsMp
import Derived.Test.YtdnjefldijjgdaaDoorRebuildSumsMbm
import Derived.Test.YtdnjefldijjgdaaDoorRebuildSumsMbn
namespace Go.Proofs.YtdnjefldijjgdaaDoor
open Go.RowKit Go.Lib Go.ChangeShapes Go.WideShapes Go.ChangeAt
def Yqa (w:World):Prop:=Ydr w∧Ya9 w∧Ybj w∧Yby w
theorem Yqa.below {w x:World}(h:Yqa w)(hb:Below w.heap.size w x):Yqa x:=⟨h.1.below hb,h.2.1.below hb,h.2.2.1.below hb,h.2.2.2.below hb⟩
theorem Yop {laid:List (String×DataW Unit)}{W:World}(hL:laidMetH Tryd.prog laid W)
  (hm : ((("overspill/steps.codes", Rows.laid_overspill_steps_codes) ∈ laid ∧
   (("overspill/tcoef.codes", Rows.laid_overspill_tcoef_codes) ∈ laid ∧ ("overspill/tcoef.lengths", Rows.laid_overspill_tcoef_lengths) ∈ laid ∧ ("overspill/tcoef.ahead", Rows.laid_overspill_tcoef_ahead) ∈ laid)) ∧ ("overspill/scan.places", Rows.laid_overspill_scan_places) ∈ laid ∧ ("overspill/dct.weights", Rows.laid_overspill_dct_weights) ∈ laid) ∧ (laid.all fun x => x.2.handleName?.isNone) = true) : Yqa W :=
 ⟨(Yjc hL ⟨hm.1.1,hm.2⟩).1,(Yjc hL ⟨hm.1.1,hm.2⟩).2,Ymo hL ⟨hm.1.2.1,hm.2⟩,Ynk hL ⟨hm.1.2.2,hm.2⟩⟩
end Go.Proofs.YtdnjefldijjgdaaDoor