/- StripsChecks, 15. No condition. -/
import Derived.Test.YtjjmalchelniiaaGreatDoorStripsChecksMe
import Derived.WalkKit
import Derived.Lib.LaidTab
import Derived.MakeChecks
open Go renaming Program->A3,World->A5,MemPlace->Ac,DataW->Ab
namespace Go.Proofs.YtjjmalchelniiaaGreatDoor
section
open Go.RowKit Go.Lib
abbrev Ii:=@Below.heap_setCell
abbrev Ij:=@List.getElem?_eq_getElem
abbrev Ik:=@Option.some.inj
abbrev Il:=@congrArg
abbrev Im:=@Option.map_eq_some_iff
abbrev In:=@Array.getElem?_toList
abbrev Io:=@List.getElem?_map
abbrev Ip:=@World.var?_cell
abbrev Iq:=@Nat.mul_one
theorem jT {H:Type}{enc:TypeId×Value->H}{P:A3}{w:A5}{base:Nat}{m:Nat->Bool}{c:Bool}{a:Nat}{t e:TypeId}{n:Nat}{cs:List Value}{d:List (List UInt8)}{p:List Ac}
  (ht:P.underlying t=some (.array n e))(o:P.underlying e=some .string)(f:P.cellsOf e=1)(g:P.cellsOf t=n)
  (h:DataW.trod enc P w base m c a t cs=some (.agg (d.map fun l=>.lit (.string l)),p))(i:Nat)(hi:i<n):∃s:ByteArray,cs[i]? =some (.string s)/\d[i]? =some s.data.toList:=by
 cases a with
 |zero=>simp[DataW.trod] at h
 |succ a=>
  simp only[DataW.trod,ht,f,g,Iq] at h
  split at h
  ·obtain⟨k,hm,q⟩:=Im.1 h;have j:k.map (·.1)=d.map fun l=>(DataW.lit (.string l):Ab H):=by
    have:=Il Prod.fst q
    simpa using this
   obtain⟨b,r,u⟩:=mapM_at hm i i (by simp[hi]);obtain⟨s,hc,rfl,_⟩:=DataW.trod_string o u;refine⟨s,?_,?_⟩
   ·have:=Il (·[0]?) hc
    simpa [List.getElem?_take,List.getElem?_drop] using this
   ·have h2:(k.map (·.1))[i]? =some (DataW.lit (.string s.data.toList):Ab H):=by simp[r]
    rw[j] at h2;simp only[Io,Im,DataW.lit.injEq,Lit.string.injEq] at h2;obtain⟨l,hl,rfl⟩:=h2;exact hl
  ·cases h
theorem Pc {P:A3}{W:A5}{n:String}{d:Ab Unit}:∀{l:List (String×Ab Unit)} {b:List Ac},DataW.LaidVars P W l b->(n,d)∈l->
  ∃g t cs a p,P.globalNamed n=some g/\(P.globals[g]?).map (·.type)=some t/\W.var? P n=some cs/\DataW.trod (fun _=>()) P W 0 (fun _=>true) false a t cs.toList=some (d,p)
 |[],_,_,hm=>by cases hm
 |(m,e)::l,b,h,hm=>by
  obtain⟨g,t,cs,a,p,q,h1,h2,h3,h4,c,_⟩:=h;rcases Eb.1 hm with hm|hm
  ·cases hm;exact⟨g,t,cs,a,p,h1,h2,h3,h4⟩
  ·exact Pc c hm
theorem Wa {P:A3}{W:A5}{a:List (String×Ab Unit)}{m:List Ac}{b:String}{zs:List Int}{g:Nat}{t e:TypeId}{n:Nat}(hv:DataW.LaidVars P W a m)(hm:(b,(tabData .i64 zs:Ab Unit))∈a)
  (k:P.globalNamed b=some g)(ht:(P.globals[g]?).map (·.type)=some t)(o:P.underlying t=some (.array n e))(q:P.underlying e=some (.int .i64))(d:P.cellsOf e=1)(f:P.cellsOf t=n)(i:Nat)(hi:i<zs.length):
  W.cell? ⟨g,i,none⟩=some (.int .i64 zs[i]):=by
 obtain⟨r,s,cs,l,p,h,j,hc,hd⟩:=Pc hv hm;obtain rfl:=Ik (k.symm.trans h);obtain rfl:=Ik (ht.symm.trans j);have h1:=cells_of_tab o q d f hd;have c:=Ip k hc i;rw[c,<-In,h1,Io,Ij hi]
 rfl
end
section
open Go.RowKit
structure Ybu (a b:Nat) (w w':A5):Prop where
 os:w'.os=w.os
 tape:w'.tape=w.tape
 output:w'.output=w.output
 size:w.heap.size<=w'.heap.size
 block:∀k,k<w.heap.size->k≠a->k≠b->w'.heap[k]? =w.heap[k]?
theorem Ybu.refl (a b:Nat)(w:A5):Ybu a b w w:=⟨rfl,rfl,rfl,Dx _,fun _ _ _ _=>rfl⟩
theorem Ybu.trans {a b:Nat}{x y z:A5}(h:Ybu a b x y)(k:Ybu a b y z):Ybu a b x z:=
 ⟨k.os.trans h.os,k.tape.trans h.tape,k.output.trans h.output,Ea h.size k.size,fun i hi h1 h2=>(k.block i (E9 hi h.size) h1 h2).trans (h.block i hi h1 h2)⟩
theorem Ybu.grown {a b c:Nat}{x y:A5}(h:x.grownBy y (some c))(hc:c=a\/c=b):Ybu a b x y:=
 ⟨h.os,h.tape,h.output,h.size,fun i hi h1 h2=>h.block i hi (fun e=>by injection e with e;omega)⟩
theorem Ybu.set {a b:Nat}{x:A5}{p:Addr}(v:Value)(hc:p.block=a\/p.block=b):Ybu a b x (x.setCell p v):=
 ⟨rfl,rfl,rfl,by simp[World.setCell],fun i _ h1 h2=>Ii _ _ _ _ (by omega)⟩
theorem Ybu.under {a b N:Nat}{x y:A5}(h:Ybu a b x y)(c:N<=x.heap.size)(d:N<=a)(e:N<=b):Below N x y:=
 ⟨h.os,h.tape,h.output,h.size,fun k f=>h.block k (by omega) (by omega) (by omega)⟩
end
end Go.Proofs.YtjjmalchelniiaaGreatDoor
