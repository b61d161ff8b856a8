/- No condition. -/
import Derived.Test.YtnamlooifcpoaaaGreatDoorScreensStillMr
import Derived.Test.YtnamlooifcpoaaaGreatDoorScreensStillMbo
import Derived.Test.YtnamlooifcpoaaaGreatDoorScreensStillMbx
namespace Go.Proofs.YtnamlooifcpoaaaGreatDoor
open Go.RowKit Go.Lib Go.ChangeShapes Go.WideShapes Go.ChangeAt
def Yx8 (w:World):Prop:=Yfd w∧Ybh w∧Ybt w∧Yck w
theorem Yx8.below {w x:World}(h:Yx8 w)(hb:Below w.heap.size w x):Yx8 x:=⟨h.1.below hb,h.2.1.below hb,h.2.2.1.below hb,h.2.2.2.below hb⟩
theorem Yw9 {laid:List (String×DataW Unit)}{W:World}(hL:laidMetH Tryz.prog laid W)
  (hm : ((("overspill/steps.codes", Rows.laid_overspill_steps_codes) ∈ laid ∧
   (("overspill/tcoef.codes", Rows.laid_overspill_tcoef_codes) ∈ laid ∧ ("overspill/tcoef.lengths", Rows.laid_overspill_tcoef_lengths) ∈ laid ∧ ("overspill/tcoef.ahead", Rows.laid_overspill_tcoef_ahead) ∈ laid)) ∧ ("overspill/scan.places", Rows.laid_overspill_scan_places) ∈ laid ∧ ("overspill/dct.weights", Rows.laid_overspill_dct_weights) ∈ laid) ∧ (laid.all fun x => x.2.handleName?.isNone) = true) : Yx8 W :=
 ⟨(Ypc hL ⟨hm.1.1,hm.2⟩).1,(Ypc hL ⟨hm.1.1,hm.2⟩).2,Yuo hL ⟨hm.1.2.1,hm.2⟩,Yv1 hL ⟨hm.1.2.2,hm.2⟩⟩
end Go.Proofs.YtnamlooifcpoaaaGreatDoor