/- No condition. -/
import Derived.Test.YtkgabfmjfhljdaaDoorResidueOfMq
import Derived.Test.YtkgabfmjfhljdaaDoorResidueOfMbj
import Derived.Test.YtkgabfmjfhljdaaDoorResidueOfMbk
namespace Go.Proofs.YtkgabfmjfhljdaaDoor
open Go.RowKit Go.Lib Go.ChangeShapes Go.WideShapes Go.ChangeAt
def Yqi (w:World):Prop:=Ydv w∧Yba w∧Ybg w∧Ycc w
theorem Yqi.below {w x:World}(h:Yqi w)(hb:Below w.heap.size w x):Yqi x:=⟨h.1.below hb,h.2.1.below hb,h.2.2.1.below hb,h.2.2.2.below hb⟩
theorem Yov {laid:List (String×DataW Unit)}{W:World}(hL:laidMetH Tryd.prog laid W)
  (hm : ((("overspill/steps.codes", Rows.laid_overspill_steps_codes) ∈ laid ∧
   (("overspill/tcoef.codes", Rows.laid_overspill_tcoef_codes) ∈ laid ∧ ("overspill/tcoef.lengths", Rows.laid_overspill_tcoef_lengths) ∈ laid ∧ ("overspill/tcoef.ahead", Rows.laid_overspill_tcoef_ahead) ∈ laid)) ∧ ("overspill/scan.places", Rows.laid_overspill_scan_places) ∈ laid ∧ ("overspill/dct.weights", Rows.laid_overspill_dct_weights) ∈ laid) ∧ (laid.all fun x => x.2.handleName?.isNone) = true) : Yqi W :=
 ⟨(Yjs hL ⟨hm.1.1,hm.2⟩).1,(Yjs hL ⟨hm.1.1,hm.2⟩).2,Ym0 hL ⟨hm.1.2.1,hm.2⟩,Ynx hL ⟨hm.1.2.2,hm.2⟩⟩
end Go.Proofs.YtkgabfmjfhljdaaDoor