/- StripsWrites, 3. No condition. -/
import Derived.Below
import Derived.OwnWalk
import Derived.Lib.AppendStr
import Derived.Laws.IdiomStrings
import Derived.Laws.BytesArg
open Go renaming Value->A0,World->A5,TypeId->A7
namespace Go.Proofs.YtjjmalchelniiaaGreatDoor
open Go.RowKit
abbrev Dj:=@List.length_append
abbrev Dk:=@List.mem_singleton
abbrev Dl:=@List.eq_nil_of_length_eq_zero
abbrev Dm:=@World.ownsRow.cells
abbrev Dn:=@World.ownsRow_nil
abbrev Do:=@wpList_append_own
def II (l:List UInt8):List A0:=l.map fun b=>Value.int .u8 (b.toNat:Int)
theorem sO (l m:List UInt8):II (l++m)=II l++II m:=by simp[II]
theorem fR (l:List UInt8):(II l).length=l.length:=by simp[II]
def DU (w:A5)(base:Nat)(e:A7)(v:A0)(l:List UInt8):Prop:=w.ownsRow base e 1 v l.length (II l)
theorem DU.nil (w:A5)(base:Nat)(e:A7):DU w base e (.slice none 0 0) []:=Dn _ _ _ _
theorem DU.grow {w:A5}{base:Nat}{e:A7}{v:A0}{l m:List UInt8}{n:Nat}{a:List A0}(hn:n=l.length+m.length)(b:a=II l++II m)
  (h:w.ownsRow base e 1 v n a):DU w base e v (l++m):=by
 unfold DU;rw[sO,Dj,<-b,<-hn];exact h
theorem DU.alloc {w:A5}{base:Nat}{e:A7}{v:A0}{l:List UInt8}(h:DU w base e v l)(o:Obj):DU (w.alloc o) base e v l:=World.ownsRow.alloc h o
section
variable {P:Program}
theorem DU.text {w:A5}{base:Nat}{e src dst:A7}{v:A0}{l:List UInt8}(hs:P.underlying src=some (.slice e))(a:P.underlying e=some (.int .u8))(hd:P.underlying dst=some .string)
  (h:DU w base e v l):(convert src dst v).run P w=.ok (.string ⟨l.toArray⟩) w:=by
 rcases h.2 with ⟨rfl,hl⟩|⟨g,cap,b,rfl,_,c,_,_,_,ht⟩
 ·have:l=[]:=Dl hl;subst this;exact run_convert_bytes_nil w src e hs a 0 0 dst hd
 ·refine run_convert_bytes_back w src dst e ⟨g,0,none⟩ cap l hs a hd fun j hj=>?_;have hc:=Dm (g:=g) h rfl j (.int .u8 (l[j].toNat:Int)) (by simp[II,hj]);exact hc
theorem Yb {w:A5}{ops:Array Oper}{rest:List Oper}{o:Oper}{a:Act}{Q:Exit->Act->A5->Prop}{sl x:Operand}{t base e c:Nat}{i:TypeInfo}{v:A0}{l:List UInt8}{ad:Addr}{b:UInt8}
  (p:o.guard=none)(ho:o.op=.call {callee:=.builtin .append,args:=#[sl,x],argTypes:=#[t,t]})
  (ht:P.underlying t=some (.slice e))(hi:P.info? e=some i)(s:i.zero=some (.int .u8 0))(d:i.size=1)(q:i.bytes=1)
  (hs:a.eval sl=v)(g:DU w base e v l)(y:a.eval x=.slice (some ad) 1 c)(hc:w.cell? ad=some (.int .u8 (b.toNat:Int)))(m:l.length+1<=140737488355328)(f:base<=w.heap.size)
  (h:∀n k,DU k base e n (l++[b])->w.grownBy k v.ownBlock->wpList P ops Q rest (a.put o.dst n) k):wpList P ops Q (o::rest) a w:=
 Do w p sl x t ho base e i _ 1 1 ht hi s d q rfl (by decide) v _ _ hs g ad 1 c [.int .u8 (b.toNat:Int)] y rfl
  (fun j u hj=>by
   match j,hj with
   |0,hj=>cases hj;rw[show ad.add 0=ad from by unfold Addr.add;simp];exact hc)
  (by intro u r;rw[Dk] at r;subst r;rfl) (by unfold maxLen;omega) (by omega) f
  fun n k h1 h2 _=>h n k (DU.grow rfl rfl h1) h2
end
end Go.Proofs.YtjjmalchelniiaaGreatDoor