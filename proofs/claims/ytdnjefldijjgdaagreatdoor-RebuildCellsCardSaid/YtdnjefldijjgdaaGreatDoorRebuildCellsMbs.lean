/- No condition. -/
import Derived.Test.YtdnjefldijjgdaaGreatDoorRebuildCellsMq
import Derived.Test.YtdnjefldijjgdaaGreatDoorRebuildCellsMbq
import Derived.Test.YtdnjefldijjgdaaGreatDoorRebuildCellsMbr
namespace Go.Proofs.YtdnjefldijjgdaaGreatDoor
open Go.RowKit Go.Lib Go.ChangeShapes Go.WideShapes Go.ChangeAt
def Ysq (w:World):Prop:=Ye2 w∧Ybz w∧Yb6 w∧Ycw w
theorem Ysq.below {w x:World}(h:Ysq w)(hb:Below w.heap.size w x):Ysq x:=⟨h.1.below hb,h.2.1.below hb,h.2.2.1.below hb,h.2.2.2.below hb⟩
theorem Yr9 {laid:List (String×DataW Unit)}{W:World}(hL:laidMetH Tryz.prog laid W)
  (hm : ((("overspill/steps.codes", Rows.laid_overspill_steps_codes) ∈ laid ∧
   (("overspill/tcoef.codes", Rows.laid_overspill_tcoef_codes) ∈ laid ∧ ("overspill/tcoef.lengths", Rows.laid_overspill_tcoef_lengths) ∈ laid ∧ ("overspill/tcoef.ahead", Rows.laid_overspill_tcoef_ahead) ∈ laid)) ∧ ("overspill/scan.places", Rows.laid_overspill_scan_places) ∈ laid ∧ ("overspill/dct.weights", Rows.laid_overspill_dct_weights) ∈ laid) ∧ (laid.all fun x => x.2.handleName?.isNone) = true) : Ysq W :=
 ⟨(Yma hL ⟨hm.1.1,hm.2⟩).1,(Yma hL ⟨hm.1.1,hm.2⟩).2,Yp6 hL ⟨hm.1.2.1,hm.2⟩,Yq2 hL ⟨hm.1.2.2,hm.2⟩⟩
end Go.Proofs.YtdnjefldijjgdaaGreatDoor