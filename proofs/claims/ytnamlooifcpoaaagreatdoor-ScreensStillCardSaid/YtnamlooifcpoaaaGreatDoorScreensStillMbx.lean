/- No condition. -/
import Derived.Test.YtnamlooifcpoaaaGreatDoorScreensStillMa
import Derived.Test.YtnamlooifcpoaaaGreatDoorScreensStillMb
import Derived.Test.YtnamlooifcpoaaaGreatDoorScreensStillMg
import Derived.Test.YtnamlooifcpoaaaGreatDoorScreensStillMh
import Derived.Test.YtnamlooifcpoaaaGreatDoorScreensStillMo
import Derived.Test.YtnamlooifcpoaaaGreatDoorScreensStillMbo
import Derived.WalkMore
import Derived.IntWalk
import Derived.Great.BuildSlice
import Derived.BigQuiet
import Derived.Deep.QuietTactic
import Derived.Test.YtnamlooifcpoaaaGreatDoorRows
namespace Go.Proofs.YtnamlooifcpoaaaGreatDoor
open Go.RowKit Go.Lib
def Yz9:List Int:=[64,64,64,64,89,75,50,18,83,36,-36,-83,75,-18,-89,-50,64,-64,-64,64,50,-89,18,75,36,-83,83,-36,18,-50,75,-89]
def hrow (k:Nat):Array Value:=arn 4 fun i=>Yz9[4*k+i]?.getD 0
def Yx1:Array Value:=arn 32 fun i=>Yz9[i]?.getD 0
theorem Yv2:(Rows.laid_overspill_dct_weights:DataW Unit)=tabData .i64 wtZ:=by kernel_rfl
theorem Yv1 {laid : List (String × DataW Unit)} {W : World} (hL : laidMetH Tryz.prog laid W) (hm : ("overspill/dct.weights", Rows.laid_overspill_dct_weights) ∈ laid ∧ (laid.all fun x => x.2.handleName?.isNone) = true) : Yck W := by
 rw[MakeChecks.laidMetH_plain _ _ _ hm.2] at hL;obtain⟨ps,hv,_,_⟩:=hL;have h1:=hm.1;rw[Yv2] at h1;have hlc:wtZ.length=64:=rfl;intro i hi;have g1:=Ylz hv h1 (g:=1) (t:=60) (by kernel_rfl) (by kernel_rfl) Tryz.underlying60 Tryz.underlying3 (by kernel_rfl) (by kernel_rfl) i (by rw[hlc];exact hi);rw[g1];unfold wt;rw[List.getElem?_eq_getElem (by rw[hlc];exact hi)]
 rfl
end Go.Proofs.YtnamlooifcpoaaaGreatDoor