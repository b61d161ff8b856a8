/- No condition. -/
import Derived.Below
import Derived.OpenShut
import Derived.ProofKit
namespace Go.Proofs.YtjjmalchelniiaaGreatDoor
open Go.ChangeShapes Go.WideShapes Go.ChangeAt Go.RowKit
section
variable {H:Type}{enc:TypeId×Value->H}{P:Program}
theorem uA{p:Prop}(h:p:=by cases h):p:=h
abbrev Ey:=@List.mem_cons_of_mem
abbrev Ez:=@List.mem_cons_self
abbrev Fa:=@List.append_nil
abbrev Fb:=@List.all_eq_true
abbrev Fc:=@List.mem_append_left
theorem Y5 (hl:laidOutB P=true){W g:World}{i:Nat->Bool}:
  ∀{f:List TypeId} {vs:List Value} {ds:List (DataW H)} {e:List MemPlace},(∀t∈f,P.readableRec t=true/\t<P.types.size)->
   DataW.TrodAll enc P W 0 (fun _=>true) true f vs ds e->(∀p∈e,W.sameAt g p)->(∀p∈e,i p.block=true)->DataW.TrodAll enc P g 0 i true f vs ds e
 |[],_,_,_,_,h,_,_=>by
  obtain⟨rfl,rfl,rfl⟩:=trodAll_nil h;exact trodAll_mk0
 |_::_,_,_,_,ht,h,hsame,hs=>by
  obtain⟨v,j,d,k,a,b,rfl,rfl,rfl,h1,h2⟩:=trodAll_cons h;obtain⟨hr,l⟩:=ht _ Ez;exact trodAll_cons_mk (WideElems.Trod_stays hl hr l h1 (fun p c=>hsame p (Fc _ c)) (fun p c=>hs p (Fc _ c)))
   (Y5 hl (fun t h=>ht t (Ey _ h)) h2 (fun p c=>hsame p (List.mem_append_right _ c)) (fun p c=>hs p (List.mem_append_right _ c)))
theorem nJ {f:Func}{s:ChangeSpec}{W m:World}{args:Array Value}{ds n:List (DataW H)}{a:List MemPlace}{o:TypeId}
  (hl:laidOutB P=true)(e:f.params.toList.all (fun t=>P.readableRec t&&decide (t<P.types.size))=true)
  (g:f.resultTypes=#[o])(i:P.underlying o=some .bool)(hv:s.vars=[])
  (j:DataW.Whole enc P f.params.toList s.vars false W args.toList ds n a)
  (b:s.fn H (ds++n) = {results:=[.lit (.bool true)],args:=ds})
  (r:Below W.heap.size W m):s.post enc P f false true false false W args (.bool true) m:=by
 have c:∀p∈a,p.block<W.heap.size:=fun p v=>j.lt p v;have k:=j;obtain⟨p,q,w,u,rfl,_,_⟩:=j;rw[hv] at u;obtain⟨rfl,rfl⟩:=trodVars_none u;rw[Fa] at c;have d:∀t∈f.params.toList,P.readableRec t=true/\t<P.types.size:=fun t ht=>by
  have:=Fb.1 e t ht
  simpa using this
 refine⟨ds,[],p++[],[],p,[],k,?_,?_,?_,r.frame _,fun h=>uA⟩
 ·rw[g,b];exact trodAll_cons_mk (shut_bool i _) trodAll_mk0
 ·rw[b];exact Y5 hl d w (fun x l=>r.same (c x l)) (fun x l=>by simpa using c x l)
 ·rw[hv,b]
  rfl
end
end Go.Proofs.YtjjmalchelniiaaGreatDoor