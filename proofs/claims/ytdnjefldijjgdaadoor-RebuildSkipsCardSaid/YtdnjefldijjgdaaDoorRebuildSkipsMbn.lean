/- No condition. -/
import Derived.Test.YtdnjefldijjgdaaDoorRebuildSkipsMr
import Derived.Test.YtdnjefldijjgdaaDoorRows
namespace Go.Proofs.YtdnjefldijjgdaaDoor
open Go.RowKit Go.Lib
theorem Yn3:(Rows.laid_overspill_scan_places:DataW Unit)=tabData .i64 (Yj6.map fun z:Nat=>(z:Int)):=by kernel_rfl
theorem Yrl (l:List Nat)(i:Nat)(h:i<(l.map fun z:Nat=>(z:Int)).length):(l.map fun z:Nat=>(z:Int))[i]=((l[i]?.getD 0:Nat):Int):=by
 have h2:i<l.length:=by simpa using h
 rw[List.getElem_map,List.getElem?_eq_getElem h2]
 rfl
theorem Yn2 {laid : List (String × DataW Unit)} {W : World} (hL : laidMetH Tryd.prog laid W) (hm : ("overspill/scan.places", Rows.laid_overspill_scan_places) ∈ laid ∧ (laid.all fun x => x.2.handleName?.isNone) = true) : Ybg W := by
 rw[MakeChecks.laidMetH_plain _ _ _ hm.2] at hL;obtain⟨ps,hv,_,_⟩:=hL;have h1:=hm.1;rw[Yn3] at h1;have hlc:(Yj6.map fun z:Nat=>(z:Int)).length=64:=rfl;intro i hi;have g1:=Yhx hv h1 (g:=2) (t:=22) (by kernel_rfl) (by kernel_rfl) Tryd.underlying22 Tryd.underlying3 (by kernel_rfl) (by kernel_rfl) i (by rw[hlc];exact hi);rw[Yrl] at g1;exact g1
end Go.Proofs.YtdnjefldijjgdaaDoor