/- No condition. -/
import Derived.Test.YtnamlooifcpoaaaGreatDoorScreensStillMc
import Derived.WalkKit
import Derived.Lib.LaidTab
import Derived.MakeChecks
namespace Go.Proofs.YtnamlooifcpoaaaGreatDoor
open Go.RowKit Go.Lib
theorem Yg0 {P:Program}{W:World}{n:String}{d:DataW Unit}:∀{l:List (String×DataW Unit)} {ps:List MemPlace},DataW.LaidVars P W l ps→(n,d)∈l→
  ∃g t cs fuel p,P.globalNamed n=some g∧(P.globals[g]?).map (·.type)=some t∧W.var? P n=some cs∧DataW.trod (fun _=>()) P W 0 (fun _=>true) false fuel t cs.toList=some (d,p)
 |[],_,_,hm=>by cases hm
 |(m,e)::l,ps,h,hm=>by
  obtain⟨g,t,cs,fuel,p,q,h1,h2,h3,h4,h5,_⟩:=h;rcases List.mem_cons.1 hm with hm|hm
  ·cases hm;exact⟨g,t,cs,fuel,p,h1,h2,h3,h4⟩
  ·exact Yg0 h5 hm
theorem Ylz {P:Program}{W:World}{laid:List (String×DataW Unit)}{ps:List MemPlace}{name:String}{zs:List Int}{g:Nat}{t e:TypeId}{n:Nat}(hv:DataW.LaidVars P W laid ps)(hm:(name,(tabData .i64 zs:DataW Unit))∈laid)
  (hg:P.globalNamed name=some g)(ht:(P.globals[g]?).map (·.type)=some t)(hu:P.underlying t=some (.array n e))(he:P.underlying e=some (.int .i64))(hce:P.cellsOf e=1)(hct:P.cellsOf t=n)(i:Nat)(hi:i<zs.length):
  W.cell? ⟨g,i,none⟩=some (.int .i64 zs[i]):=by
 obtain⟨g',t',cs,fuel,p,hg',ht',hc,hd⟩:=Yg0 hv hm;obtain rfl:=Option.some.inj (hg.symm.trans hg');obtain rfl:=Option.some.inj (ht.symm.trans ht');have h1:=cells_of_tab hu he hce hct hd;have hcell:=World.var?_cell hg hc i;rw[hcell,←Array.getElem?_toList,h1,List.getElem?_map,List.getElem?_eq_getElem hi]
 rfl
end Go.Proofs.YtnamlooifcpoaaaGreatDoor