/- No condition. -/
import Derived.Test.YtdnjefldijjgdaaGreatDoorRebuildCellsMr
import Derived.Test.YtdnjefldijjgdaaGreatDoorRows
namespace Go.Proofs.YtdnjefldijjgdaaGreatDoor
open Go.RowKit Go.Lib
theorem Yp7:(Rows.laid_overspill_scan_places:DataW Unit)=tabData .i64 (Yl3.map fun z:Nat=>(z:Int)):=by kernel_rfl
theorem Ytf (l:List Nat)(i:Nat)(h:i<(l.map fun z:Nat=>(z:Int)).length):(l.map fun z:Nat=>(z:Int))[i]=((l[i]?.getD 0:Nat):Int):=by
 have h2:i<l.length:=by simpa using h
 rw[List.getElem_map,List.getElem?_eq_getElem h2]
 rfl
theorem Yp6 {laid : List (String × DataW Unit)} {W : World} (hL : laidMetH Tryz.prog laid W) (hm : ("overspill/scan.places", Rows.laid_overspill_scan_places) ∈ laid ∧ (laid.all fun x => x.2.handleName?.isNone) = true) : Yb6 W := by
 rw[MakeChecks.laidMetH_plain _ _ _ hm.2] at hL;obtain⟨ps,hv,_,_⟩:=hL;have h1:=hm.1;rw[Yp7] at h1;have hlc:(Yl3.map fun z:Nat=>(z:Int)).length=64:=rfl;intro i hi;have g1:=Yjm hv h1 (g:=2) (t:=36) (by kernel_rfl) (by kernel_rfl) Tryz.underlying36 Tryz.underlying3 (by kernel_rfl) (by kernel_rfl) i (by rw[hlc];exact hi);rw[Ytf] at g1;exact g1
end Go.Proofs.YtdnjefldijjgdaaGreatDoor