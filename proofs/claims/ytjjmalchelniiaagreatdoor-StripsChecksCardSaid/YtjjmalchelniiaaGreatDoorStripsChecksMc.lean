/- StripsChecks, 3. No condition. -/
import Derived.Below
import Derived.OwnWalk
import Derived.Lib.AppendStr
import Derived.Laws.IdiomStrings
import Derived.Laws.BytesArg
open Go renaming Value->A0,World->A5,TypeId->A7
namespace Go.Proofs.YtjjmalchelniiaaGreatDoor
open Go.RowKit
abbrev Df:=@List.mem_singleton
abbrev Dg:=@List.length_append
abbrev Dh:=@List.eq_nil_of_length_eq_zero
abbrev Di:=@World.ownsRow.cells
abbrev Dj:=@World.ownsRow_nil
abbrev Dk:=@wpList_append_own
def IR (l:List UInt8):List A0:=l.map fun b=>Value.int .u8 (b.toNat:Int)
theorem pT (l m:List UInt8):IR (l++m)=IR l++IR m:=by simp[IR]
theorem qX (l:List UInt8):(IR l).length=l.length:=by simp[IR]
def EU (w:A5)(base:Nat)(e:A7)(v:A0)(l:List UInt8):Prop:=w.ownsRow base e 1 v l.length (IR l)
theorem EU.nil (w:A5)(base:Nat)(e:A7):EU w base e (.slice none 0 0) []:=Dj _ _ _ _
theorem EU.grow {w:A5}{base:Nat}{e:A7}{v:A0}{l m:List UInt8}{n:Nat}{a:List A0}(hn:n=l.length+m.length)(b:a=IR l++IR m)
  (h:w.ownsRow base e 1 v n a):EU w base e v (l++m):=by
 unfold EU;rw[pT,Dg,<-b,<-hn];exact h
theorem EU.alloc {w:A5}{base:Nat}{e:A7}{v:A0}{l:List UInt8}(h:EU w base e v l)(o:Obj):EU (w.alloc o) base e v l:=World.ownsRow.alloc h o
section
variable {P:Program}
theorem EU.text {w:A5}{base:Nat}{e src dst:A7}{v:A0}{l:List UInt8}(hs:P.underlying src=some (.slice e))(a:P.underlying e=some (.int .u8))(hd:P.underlying dst=some .string)
  (h:EU w base e v l):(convert src dst v).run P w=.ok (.string ⟨l.toArray⟩) w:=by
 rcases h.2 with ⟨rfl,hl⟩|⟨g,cap,b,rfl,_,c,_,_,_,ht⟩
 ·have:l=[]:=Dh hl;subst this;exact run_convert_bytes_nil w src e hs a 0 0 dst hd
 ·refine run_convert_bytes_back w src dst e ⟨g,0,none⟩ cap l hs a hd fun j hj=>?_;have hc:=Di (g:=g) h rfl j (.int .u8 (l[j].toNat:Int)) (by simp[IR,hj]);exact hc
theorem Z9 {w:A5}{ops:Array Oper}{rest:List Oper}{o:Oper}{a:Act}{Q:Exit->Act->A5->Prop}{sl x:Operand}{t base e c:Nat}{i:TypeInfo}{v:A0}{l:List UInt8}{ad:Addr}{b:UInt8}
  (p:o.guard=none)(ho:o.op=.call {callee:=.builtin .append,args:=#[sl,x],argTypes:=#[t,t]})
  (ht:P.underlying t=some (.slice e))(hi:P.info? e=some i)(s:i.zero=some (.int .u8 0))(d:i.size=1)(q:i.bytes=1)
  (hs:a.eval sl=v)(g:EU w base e v l)(y:a.eval x=.slice (some ad) 1 c)(hc:w.cell? ad=some (.int .u8 (b.toNat:Int)))(m:l.length+1<=140737488355328)(f:base<=w.heap.size)
  (h:∀n k,EU k base e n (l++[b])->w.grownBy k v.ownBlock->wpList P ops Q rest (a.put o.dst n) k):wpList P ops Q (o::rest) a w:=
 Dk w p sl x t ho base e i _ 1 1 ht hi s d q rfl (by decide) v _ _ hs g ad 1 c [.int .u8 (b.toNat:Int)] y rfl
  (fun j u hj=>by
   match j,hj with
   |0,hj=>cases hj;rw[show ad.add 0=ad from by unfold Addr.add;simp];exact hc)
  (by intro u r;rw[Df] at r;subst r;rfl) (by unfold maxLen;omega) (by omega) f
  fun n k h1 h2 _=>h n k (EU.grow rfl rfl h1) h2
end
end Go.Proofs.YtjjmalchelniiaaGreatDoor