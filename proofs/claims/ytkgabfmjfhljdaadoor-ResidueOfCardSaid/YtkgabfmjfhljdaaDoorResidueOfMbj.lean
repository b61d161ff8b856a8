/- No condition. -/
import Derived.Test.YtkgabfmjfhljdaaDoorResidueOfMr
import Derived.Test.YtkgabfmjfhljdaaDoorRows
namespace Go.Proofs.YtkgabfmjfhljdaaDoor
open Go.RowKit Go.Lib
theorem Ym1:(Rows.laid_overspill_scan_places:DataW Unit)=tabData .i64 (Yjh.map fun z:Nat=>(z:Int)):=by kernel_rfl
theorem Yp2 (l:List Nat)(i:Nat)(h:i<(l.map fun z:Nat=>(z:Int)).length):(l.map fun z:Nat=>(z:Int))[i]=((l[i]?.getD 0:Nat):Int):=by
 have h2:i<l.length:=by simpa using h
 rw[List.getElem_map,List.getElem?_eq_getElem h2]
 rfl
theorem Ym0 {laid : List (String × DataW Unit)} {W : World} (hL : laidMetH Tryd.prog laid W) (hm : ("overspill/scan.places", Rows.laid_overspill_scan_places) ∈ laid ∧ (laid.all fun x => x.2.handleName?.isNone) = true) : Ybg W := by
 rw[MakeChecks.laidMetH_plain _ _ _ hm.2] at hL;obtain⟨ps,hv,_,_⟩:=hL;have h1:=hm.1;rw[Ym1] at h1;have hlc:(Yjh.map fun z:Nat=>(z:Int)).length=64:=rfl;intro i hi;have g1:=Yhn hv h1 (g:=0) (t:=30) (by kernel_rfl) (by kernel_rfl) Tryd.underlying30 Tryd.underlying3 (by kernel_rfl) (by kernel_rfl) i (by rw[hlc];exact hi);rw[Yp2] at g1;exact g1
end Go.Proofs.YtkgabfmjfhljdaaDoor