/- Texts that SheetoutPuts's proof stands on, part 22 of 47. No condition of its own. -/
import Derived.Test.YtgikochfffdpfaaGreatDoorSheetoutPutsMd
import Derived.WalkKit
import Derived.Lib.LaidTab
import Derived.MakeChecks
namespace Go.Proofs.YtgikochfffdpfaaGreatDoor
open Go.RowKit Go.Lib
theorem Yj5 {H:Type} {enc:TypeId×Value→H} {P:Program} {w:World} {base:Nat} {sp:Nat→Bool} {held:Bool} {fuel:Nat} {t e:TypeId} {n:Nat} {cs:List Value} {ls:List (List UInt8)} {p:List MemPlace}
  (ht:P.underlying t=some (.array n e)) (he:P.underlying e=some .string) (hce:P.cellsOf e=1) (hct:P.cellsOf t=n)
  (h:DataW.trod enc P w base sp held fuel t cs=some (.agg (ls.map fun l=> .lit (.string l)),p)) (i:Nat) (hi:i<n):∃s:ByteArray,cs[i]? = some (.string s)∧ls[i]? = some s.data.toList:=by
 cases fuel with
 | zero=> simp [DataW.trod] at h
 | succ fuel=>
  simp only [DataW.trod,ht,hce,hct,Nat.mul_one] at h
  split at h
  ·obtain ⟨xs,hm,hx⟩:=Option.map_eq_some_iff.1 h
   have hxs:xs.map (·.1)=ls.map fun l=> (DataW.lit (.string l):DataW H):=by
    have:=congrArg Prod.fst hx
    simpa using this
   obtain ⟨b,hb,hf⟩:=mapM_at hm i i (by simp [hi])
   obtain ⟨s,hc,rfl,_⟩:=DataW.trod_string he hf
   refine ⟨s,?_,?_⟩
   ·have:=congrArg (·[0]?) hc
    simpa [List.getElem?_take,List.getElem?_drop] using this
   ·have h2:(xs.map (·.1))[i]? = some (DataW.lit (.string s.data.toList):DataW H):=by simp [hb]
    rw [hxs] at h2
    simp only [List.getElem?_map,Option.map_eq_some_iff,DataW.lit.injEq,Lit.string.injEq] at h2
    obtain ⟨l,hl,rfl⟩:=h2
    exact hl
  ·cases h
theorem Yg6 {P:Program} {W:World} {n:String} {d:DataW Unit}:∀{l:List (String×DataW Unit)} {ps:List MemPlace},DataW.LaidVars P W l ps→(n,d)∈l→
  ∃g t cs fuel p,P.globalNamed n=some g∧(P.globals[g]?).map (·.type)=some t∧W.var? P n=some cs∧DataW.trod (fun _=> ()) P W 0 (fun _=> true) false fuel t cs.toList=some (d,p)
 | [],_,_,hm=> by cases hm
 | (m,e)::l,ps,h,hm=> by
  obtain ⟨g,t,cs,fuel,p,q,h1,h2,h3,h4,h5,_⟩:=h
  rcases List.mem_cons.1 hm with hm | hm
  ·cases hm
   exact ⟨g,t,cs,fuel,p,h1,h2,h3,h4⟩
  ·exact Yg6 h5 hm
theorem Ym4 {P:Program} {W:World} {laid:List (String×DataW Unit)} {ps:List MemPlace} {name:String} {zs:List Int} {g:Nat} {t e:TypeId} {n:Nat} (hv:DataW.LaidVars P W laid ps) (hm:(name,(tabData .i64 zs:DataW Unit))∈laid)
  (hg:P.globalNamed name=some g) (ht:(P.globals[g]?).map (·.type)=some t) (hu:P.underlying t=some (.array n e)) (he:P.underlying e=some (.int .i64)) (hce:P.cellsOf e=1) (hct:P.cellsOf t=n) (i:Nat) (hi:i<zs.length):
  W.cell? ⟨g,i,none⟩=some (.int .i64 zs[i]):=by
 obtain ⟨g',t',cs,fuel,p,hg',ht',hc,hd⟩:=Yg6 hv hm
 obtain rfl:=Option.some.inj (hg.symm.trans hg')
 obtain rfl:=Option.some.inj (ht.symm.trans ht')
 have h1:=cells_of_tab hu he hce hct hd
 have hcell:=World.var?_cell hg hc i
 rw [hcell,←Array.getElem?_toList,h1,List.getElem?_map,List.getElem?_eq_getElem hi]
 rfl
end Go.Proofs.YtgikochfffdpfaaGreatDoor