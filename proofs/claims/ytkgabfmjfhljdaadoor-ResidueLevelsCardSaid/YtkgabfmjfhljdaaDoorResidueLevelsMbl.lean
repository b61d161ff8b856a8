/- No condition. -/
import Derived.Test.YtkgabfmjfhljdaaDoorResidueLevelsMq
import Derived.Test.YtkgabfmjfhljdaaDoorResidueLevelsMbj
import Derived.Test.YtkgabfmjfhljdaaDoorResidueLevelsMbk
namespace Go.Proofs.YtkgabfmjfhljdaaDoor
open Go.RowKit Go.Lib Go.ChangeShapes Go.WideShapes Go.ChangeAt
def Ypa (w:World):Prop:=Ydj w∧Ya3 w∧Ya8 w∧Yb1 w
theorem Ypa.below {w x:World}(h:Ypa w)(hb:Below w.heap.size w x):Ypa x:=⟨h.1.below hb,h.2.1.below hb,h.2.2.1.below hb,h.2.2.2.below hb⟩
theorem Yns {laid:List (String×DataW Unit)}{W:World}(hL:laidMetH Tryd.prog laid W)
  (hm : ((("overspill/steps.codes", Rows.laid_overspill_steps_codes) ∈ laid ∧
   (("overspill/tcoef.codes", Rows.laid_overspill_tcoef_codes) ∈ laid ∧ ("overspill/tcoef.lengths", Rows.laid_overspill_tcoef_lengths) ∈ laid ∧ ("overspill/tcoef.ahead", Rows.laid_overspill_tcoef_ahead) ∈ laid)) ∧ ("overspill/scan.places", Rows.laid_overspill_scan_places) ∈ laid ∧ ("overspill/dct.weights", Rows.laid_overspill_dct_weights) ∈ laid) ∧ (laid.all fun x => x.2.handleName?.isNone) = true) : Ypa W :=
 ⟨(Yi8 hL ⟨hm.1.1,hm.2⟩).1,(Yi8 hL ⟨hm.1.1,hm.2⟩).2,Yl3 hL ⟨hm.1.2.1,hm.2⟩,Ymx hL ⟨hm.1.2.2,hm.2⟩⟩
end Go.Proofs.YtkgabfmjfhljdaaDoor