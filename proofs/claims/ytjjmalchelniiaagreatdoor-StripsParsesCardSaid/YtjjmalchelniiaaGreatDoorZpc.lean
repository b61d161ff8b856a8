/- No condition. -/
import Derived.Below
import Derived.OwnWalk
import Derived.Lib.AppendStr
import Derived.Laws.IdiomStrings
import Derived.Laws.BytesArg
open Go renaming Value->A0,World->A5,TypeId->A7,Oper->A4
namespace Go.Proofs.YtjjmalchelniiaaGreatDoor
open Go.RowKit
theorem tF{p:Prop}(h:p:=by omega):p:=h
theorem tG{p:Prop}(h:p:=by decide):p:=h
theorem tJ{p:Prop}(h:p:=by simp):p:=h
theorem tK{p:Prop}(h:p:=by unfold maxLen;omega):p:=h
theorem tM{p:Prop}(h:p:=by intro u r;rw[Df] at r;subst r;rfl):p:=h
abbrev Df:=@List.mem_singleton
abbrev Dg:=@List.length_append
abbrev Dh:=@List.eq_nil_of_length_eq_zero
abbrev Di:=@World.ownsRow.cells
abbrev Dj:=@World.ownsRow_nil
abbrev Dk:=@Array.length_toList
abbrev Dl:=@wpList_append_own
def JQ (l:List UInt8):List A0:=l.map fun b=>Value.int .u8 (b.toNat:Int)
theorem qO (l m:List UInt8):JQ (l++m)=JQ l++JQ m:=by simp[JQ]
theorem qL (l:List UInt8):(JQ l).length=l.length:=by simp[JQ]
def DT (w:A5)(base:Nat)(e:A7)(v:A0)(l:List UInt8):Prop:=w.ownsRow base e 1 v l.length (JQ l)
theorem DT.nil (w:A5)(base:Nat)(e:A7):DT w base e (.slice none 0 0) []:=Dj _ _ _ _
theorem DT.grow {w:A5}{base:Nat}{e:A7}{v:A0}{l m:List UInt8}{n:Nat}{a:List A0}(hn:n=l.length+m.length)(b:a=JQ l++JQ m)
  (h:w.ownsRow base e 1 v n a):DT w base e v (l++m):=by
 unfold DT;rw[qO,Dg,<-b,<-hn];exact h
theorem DT.alloc {w:A5}{base:Nat}{e:A7}{v:A0}{l:List UInt8}(h:DT w base e v l)(o:Obj):DT (w.alloc o) base e v l:=World.ownsRow.alloc h o
section
variable {P:Program}
theorem DT.text {w:A5}{base:Nat}{e src dst:A7}{v:A0}{l:List UInt8}(hs:P.underlying src=some (.slice e))(a:P.underlying e=some (.int .u8))(hd:P.underlying dst=some .string)
  (h:DT w base e v l):(convert src dst v).run P w=.ok (.string ⟨l.toArray⟩) w:=by
 rcases h.2 with ⟨rfl,hl⟩|⟨g,cap,b,rfl,_,c,_,_,_,ht⟩
 ·have:l=[]:=Dh hl;subst this;exact run_convert_bytes_nil w src e hs a 0 0 dst hd
 ·refine run_convert_bytes_back w src dst e ⟨g,0,none⟩ cap l hs a hd fun j hj=>?_;have hc:=Di (g:=g) h rfl j (.int .u8 (l[j].toNat:Int)) (by simp[JQ,hj]);exact hc
theorem lX {w:A5}{ops:Array A4}{rest:List A4}{o:A4}{a:Act}{Q:Exit->Act->A5->Prop}{sl x:Operand}{t u base e:Nat}{i:TypeInfo}{v:A0}{l:List UInt8}{s:ByteArray}
  (k:o.guard=none)(ho:o.op=.call {callee:=.builtin .append,args:=#[sl,x],argTypes:=#[t,u]})
  (ht:P.underlying t=some (.slice e))(n:P.underlying u=some .string)(hi:P.info? e=some i)(p:i.zero=some (.int .u8 0))(b:i.size=1)(m:i.bytes=1)
  (hs:a.eval sl=v)(d:DT w base e v l)(q:a.eval x=.string s)(g:l.length+s.data.toList.length<=140737488355328)(c:base<=w.heap.size)
  (h:∀j f,DT f base e j (l++s.data.toList)->w.grownBy f v.ownBlock->wpList P ops Q rest (a.put o.dst j) f):wpList P ops Q (o::rest) a w:=
 Lib.wpList_append_own_string w k sl x t u ho base e i ht n hi p b m v _ _ hs d s q (by have e:s.size=s.data.toList.length:=Dk.symm;unfold maxLen;omega) (by have e:s.size=s.data.toList.length:=Dk.symm;omega) c fun j f h1 h2 _=>
  h j f (DT.grow tJ rfl h1) h2
theorem Yu8 {w:A5}{ops:Array A4}{rest:List A4}{o:A4}{a:Act}{Q:Exit->Act->A5->Prop}{sl x:Operand}{t base e c:Nat}{i:TypeInfo}{v:A0}{l:List UInt8}{ad:Addr}{b:UInt8}
  (p:o.guard=none)(ho:o.op=.call {callee:=.builtin .append,args:=#[sl,x],argTypes:=#[t,t]})
  (ht:P.underlying t=some (.slice e))(hi:P.info? e=some i)(s:i.zero=some (.int .u8 0))(d:i.size=1)(q:i.bytes=1)
  (hs:a.eval sl=v)(g:DT w base e v l)(y:a.eval x=.slice (some ad) 1 c)(hc:w.cell? ad=some (.int .u8 (b.toNat:Int)))(m:l.length+1<=140737488355328)(f:base<=w.heap.size)
  (h:∀n k,DT k base e n (l++[b])->w.grownBy k v.ownBlock->wpList P ops Q rest (a.put o.dst n) k):wpList P ops Q (o::rest) a w:=
 Dl w p sl x t ho base e i _ 1 1 ht hi s d q rfl tG v _ _ hs g ad 1 c [.int .u8 (b.toNat:Int)] y rfl
  (fun j u hj=>by
   match j,hj with
   |0,hj=>cases hj;rw[show ad.add 0=ad from by unfold Addr.add;simp];exact hc)
  tM tK tF f
  fun n k h1 h2 _=>h n k (DT.grow rfl rfl h1) h2
end
end Go.Proofs.YtjjmalchelniiaaGreatDoor