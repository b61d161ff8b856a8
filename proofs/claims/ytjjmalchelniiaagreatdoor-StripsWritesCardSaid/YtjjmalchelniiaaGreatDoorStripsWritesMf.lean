/- StripsWrites, 6. No condition. -/
import Derived.Below
import Derived.OpenShut
import Derived.ProofKit
import Derived.Deep.Slices
import Derived.Deep.MidRow
open Go renaming TypeId->A7,Value->A0,World->A5
namespace Go.Proofs.YtjjmalchelniiaaGreatDoor
open Go.ChangeShapes Go.WideShapes Go.ChangeAt Go.RowKit
section
variable {H:Type}{enc:A7×A0->H}{P:Program}
abbrev Ez:=@List.mem_cons_of_mem
abbrev Fa:=@List.mem_cons_self
abbrev Fb:=@List.append_nil
abbrev Fc:=@World.block_lt_of_cell?
abbrev Fe:=@List.all_eq_true
abbrev Ff:=@List.mem_append_left
theorem Ww (hl:laidOutB P=true){W g:A5}{i:Nat->Bool}:
  ∀{f:List A7} {vs:List A0} {ds:List (DataW H)} {e:List MemPlace},(∀t∈f,P.readableRec t=true/\t<P.types.size)->
   DataW.TrodAll enc P W 0 (fun _=>true) true f vs ds e->(∀p∈e,W.sameAt g p)->(∀p∈e,i p.block=true)->DataW.TrodAll enc P g 0 i true f vs ds e
 |[],_,_,_,_,h,_,_=>by
  obtain⟨rfl,rfl,rfl⟩:=trodAll_nil h;exact trodAll_mk0
 |_::_,_,_,_,ht,h,hsame,hs=>by
  obtain⟨v,j,d,k,a,b,rfl,rfl,rfl,h1,h2⟩:=trodAll_cons h;obtain⟨hr,l⟩:=ht _ Fa;exact trodAll_cons_mk (WideElems.Trod_stays hl hr l h1 (fun p c=>hsame p (Ff _ c)) (fun p c=>hs p (Ff _ c)))
   (Ww hl (fun t h=>ht t (Ez _ h)) h2 (fun p c=>hsame p (List.mem_append_right _ c)) (fun p c=>hs p (List.mem_append_right _ c)))
theorem pR {f:Func}{s:ChangeSpec}{W m:A5}{args:Array A0}{ds n:List (DataW H)}{a:List MemPlace}{o:A7}
  (hl:laidOutB P=true)(e:f.params.toList.all (fun t=>P.readableRec t&&decide (t<P.types.size))=true)
  (g:f.resultTypes=#[o])(i:P.underlying o=some .bool)(hv:s.vars=[])
  (j:DataW.Whole enc P f.params.toList s.vars false W args.toList ds n a)
  (b:s.fn H (ds++n) = {results:=[.lit (.bool true)],args:=ds})
  (r:Below W.heap.size W m):s.post enc P f false true false false W args (.bool true) m:=by
 have c:∀p∈a,p.block<W.heap.size:=fun p v=>j.lt p v;have k:=j;obtain⟨p,q,w,u,rfl,_,_⟩:=j;rw[hv] at u;obtain⟨rfl,rfl⟩:=trodVars_none u;rw[Fb] at c;have d:∀t∈f.params.toList,P.readableRec t=true/\t<P.types.size:=fun t ht=>by
  have:=Fe.1 e t ht
  simpa using this
 refine⟨ds,[],p++[],[],p,[],k,?_,?_,?_,r.frame _,fun h=>by cases h⟩
 ·rw[g,b];exact trodAll_cons_mk (shut_bool i _) trodAll_mk0
 ·rw[b];exact Ww hl d w (fun x l=>r.same (c x l)) (fun x l=>by simpa using c x l)
 ·rw[hv,b]
  rfl
end
theorem bI {w:A5}{a:Addr}{v:A0}(h:w.cell? a=some v):a=⟨a.block,a.off,none⟩:=by
 obtain⟨b,o,s⟩:=a;cases s with
 |none=>rfl
 |some x=>unfold World.cell? at h;split at h <;> simp at h
theorem vH {w:A5}{a:Addr}{v:A0}(h:w.cell? a=some v):a.block<w.heap.size:=Fc w a h
def SQ (W:A5)(Q:List A0->Prop)(c:Nat)(p:Option Addr)(len:Nat):Prop:=
 len=0\/∃b o,p=some ⟨b,o,none⟩/\b<W.heap.size/\∀i,i<len->∃vs:List A0,vs.length=c/\Q vs/\∀(j:Nat) v,vs[j]? =some v->W.cell? ⟨b,o+i*c+j,none⟩=some v
section
variable {H:Type}{enc:A7×A0->H}{P:Program}
end
end Go.Proofs.YtjjmalchelniiaaGreatDoor