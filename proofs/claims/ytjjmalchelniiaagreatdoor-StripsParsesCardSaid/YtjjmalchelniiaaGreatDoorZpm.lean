/- No condition. -/
import Derived.Test.YtjjmalchelniiaaGreatDoorZpe
import Derived.WalkKit
import Derived.Lib.LaidTab
import Derived.MakeChecks
open Go renaming Program->A3,World->A5,MemPlace->Ac,DataW->Ad
namespace Go.Proofs.YtjjmalchelniiaaGreatDoor
section
open Go.RowKit Go.Lib
theorem vE{p:Prop}(h:p:=by omega):p:=h
theorem vF{p:Prop}(h:p:=by injection e with e;omega):p:=h
abbrev Ib:=@Below.heap_setCell
abbrev Ic:=@List.getElem?_eq_getElem
abbrev Ie:=@Option.some.inj
abbrev If:=@congrArg
abbrev Ig:=@List.getElem?_map
abbrev Ih:=@Option.map_eq_some_iff
abbrev Ii:=@Array.getElem?_toList
abbrev Ij:=@World.var?_cell
theorem kG {H:Type}{enc:TypeId×Value->H}{P:A3}{w:A5}{base:Nat}{m:Nat->Bool}{c:Bool}{a:Nat}{t e:TypeId}{n:Nat}{cs:List Value}{d:List (List UInt8)}{p:List Ac}
  (ht:P.underlying t=some (.array n e))(o:P.underlying e=some .string)(f:P.cellsOf e=1)(g:P.cellsOf t=n)
  (h:DataW.trod enc P w base m c a t cs=some (.agg (d.map fun l=>.lit (.string l)),p))(i:Nat)(hi:i<n):∃s:ByteArray,cs[i]? =some (.string s)/\d[i]? =some s.data.toList:=by
 cases a with
 |zero=>simp[DataW.trod] at h
 |succ a=>
  simp only[DataW.trod,ht,f,g,Nat.mul_one] at h
  split at h
  ·obtain⟨k,hm,q⟩:=Ih.1 h;have j:k.map (·.1)=d.map fun l=>(DataW.lit (.string l):Ad H):=by
    have:=If Prod.fst q
    simpa using this
   obtain⟨b,r,u⟩:=mapM_at hm i i (by simp[hi]);obtain⟨s,hc,rfl,_⟩:=DataW.trod_string o u;refine⟨s,?_,?_⟩
   ·have:=If (·[0]?) hc
    simpa [List.getElem?_take,List.getElem?_drop] using this
   ·have h2:(k.map (·.1))[i]? =some (DataW.lit (.string s.data.toList):Ad H):=by simp[r]
    rw[j] at h2;simp only[Ig,Ih,DataW.lit.injEq,Lit.string.injEq] at h2;obtain⟨l,hl,rfl⟩:=h2;exact hl
  ·cases h
theorem Qs {P:A3}{W:A5}{n:String}{d:Ad Unit}:∀{l:List (String×Ad Unit)} {b:List Ac},DataW.LaidVars P W l b->(n,d)∈l->
  ∃g t cs a p,P.globalNamed n=some g/\(P.globals[g]?).map (·.type)=some t/\W.var? P n=some cs/\DataW.trod (fun _=>()) P W 0 (fun _=>true) false a t cs.toList=some (d,p)
 |[],_,_,hm=>by cases hm
 |(m,e)::l,b,h,hm=>by
  obtain⟨g,t,cs,a,p,q,h1,h2,h3,h4,c,_⟩:=h;rcases Ee.1 hm with hm|hm
  ·cases hm;exact⟨g,t,cs,a,p,h1,h2,h3,h4⟩
  ·exact Qs c hm
theorem Z5 {P:A3}{W:A5}{a:List (String×Ad Unit)}{l:List Ac}{b:String}{zs:List Int}{g:Nat}{t e:TypeId}{n:Nat}(hv:DataW.LaidVars P W a l)(hm:(b,(tabData .i64 zs:Ad Unit))∈a)
  (hg:P.globalNamed b=some g)(ht:(P.globals[g]?).map (·.type)=some t)(m:P.underlying t=some (.array n e))(o:P.underlying e=some (.int .i64))(d:P.cellsOf e=1)(f:P.cellsOf t=n)(i:Nat)(hi:i<zs.length):
  W.cell? ⟨g,i,none⟩=some (.int .i64 zs[i]):=by
 obtain⟨q,r,cs,k,p,h,j,hc,hd⟩:=Qs hv hm;obtain rfl:=Ie (hg.symm.trans h);obtain rfl:=Ie (ht.symm.trans j);have h1:=cells_of_tab m o d f hd;have c:=Ij hg hc i;rw[c,<-Ii,h1,Ig,Ic hi]
 rfl
end
section
open Go.RowKit
structure Ybe (a b:Nat) (w w':A5):Prop where
 os:w'.os=w.os
 tape:w'.tape=w.tape
 output:w'.output=w.output
 size:w.heap.size<=w'.heap.size
 block:∀k,k<w.heap.size->k≠a->k≠b->w'.heap[k]? =w.heap[k]?
theorem Ybe.refl (a b:Nat)(w:A5):Ybe a b w w:=⟨rfl,rfl,rfl,Dz _,fun _ _ _ _=>rfl⟩
theorem Ybe.trans {a b:Nat}{x y z:A5}(h:Ybe a b x y)(k:Ybe a b y z):Ybe a b x z:=
 ⟨k.os.trans h.os,k.tape.trans h.tape,k.output.trans h.output,Ef h.size k.size,fun i hi h1 h2=>(k.block i (Ed hi h.size) h1 h2).trans (h.block i hi h1 h2)⟩
theorem Ybe.grown {a b c:Nat}{x y:A5}(h:x.grownBy y (some c))(hc:c=a\/c=b):Ybe a b x y:=
 ⟨h.os,h.tape,h.output,h.size,fun i hi h1 h2=>h.block i hi (fun e=>vF)⟩
theorem Ybe.set {a b:Nat}{x:A5}{p:Addr}(v:Value)(hc:p.block=a\/p.block=b):Ybe a b x (x.setCell p v):=
 ⟨rfl,rfl,rfl,tY,fun i _ h1 h2=>Ib _ _ _ _ vE⟩
theorem Ybe.under {a b N:Nat}{x y:A5}(h:Ybe a b x y)(c:N<=x.heap.size)(d:N<=a)(e:N<=b):Below N x y:=
 ⟨h.os,h.tape,h.output,h.size,fun k hk=>h.block k vE vE vE⟩
theorem Ybe.below {a b:Nat}{w x:A5}(h:Below w.heap.size w x):Ybe a b w x:=⟨h.os,h.tape,h.output,h.size,fun k hk _ _=>h.block k hk⟩
end
end Go.Proofs.YtjjmalchelniiaaGreatDoor
