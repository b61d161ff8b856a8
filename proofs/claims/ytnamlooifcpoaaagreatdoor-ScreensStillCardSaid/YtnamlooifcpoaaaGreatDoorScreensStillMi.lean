/- No condition. -/
import Derived.Below
import Derived.OwnWalk
import Derived.Lib.AppendStr
import Derived.Laws.IdiomStrings
import Derived.Laws.BytesArg
namespace Go.Proofs.YtnamlooifcpoaaaGreatDoor
open Go.RowKit
def Ybm (l:List UInt8):List Value:=l.map fun b=>Value.int .u8 (b.toNat:Int)
theorem Ye4 (l m:List UInt8):Ybm (l++m)=Ybm l++Ybm m:=by simp[Ybm]
def Ya6 (w:World)(base:Nat)(e:TypeId)(v:Value)(l:List UInt8):Prop:=w.ownsRow base e 1 v l.length (Ybm l)
theorem Ya6.nil (w:World)(base:Nat)(e:TypeId):Ya6 w base e (.slice none 0 0) []:=World.ownsRow_nil _ _ _ _
theorem Ya6.grow {w:World}{base:Nat}{e:TypeId}{v:Value}{l m:List UInt8}{n:Nat}{xs:List Value}(hn:n=l.length+m.length)(hx:xs=Ybm l++Ybm m)
  (h:w.ownsRow base e 1 v n xs):Ya6 w base e v (l++m):=by
 unfold Ya6;rw[Ye4,List.length_append,←hx,←hn];exact h
theorem Ya6.alloc {w:World}{base:Nat}{e:TypeId}{v:Value}{l:List UInt8}(h:Ya6 w base e v l)(o:Obj):Ya6 (w.alloc o) base e v l:=World.ownsRow.alloc h o
section
variable {P:Program}
theorem Ya6.text {w:World}{base:Nat}{e src dst:TypeId}{v:Value}{l:List UInt8}(hs:P.underlying src=some (.slice e))(he:P.underlying e=some (.int .u8))(hd:P.underlying dst=some .string)
  (h:Ya6 w base e v l):(convert src dst v).run P w=.ok (.string ⟨l.toArray⟩) w:=by
 rcases h.2 with ⟨rfl,hl⟩|⟨g,cap,cur,rfl,_,hh,_,_,_,ht⟩
 ·have:l=[]:=List.eq_nil_of_length_eq_zero hl;subst this;exact run_convert_bytes_nil w src e hs he 0 0 dst hd
 ·refine run_convert_bytes_back w src dst e ⟨g,0,none⟩ cap l hs he hd fun j hj=>?_;have hc:=World.ownsRow.cells (g:=g) h rfl j (.int .u8 (l[j].toNat:Int)) (by simp[Ybm,hj]);exact hc
theorem Yim {w:World}{ops:Array Oper}{rest:List Oper}{o:Oper}{a:Act}{Q:Exit→Act→World→Prop}{sl x:Operand}{t base e c:Nat}{i:TypeInfo}{v:Value}{l:List UInt8}{ad:Addr}{b:UInt8}
  (hgd:o.guard=none)(ho:o.op=.call {callee:=.builtin .append,args:=#[sl,x],argTypes:=#[t,t]})
  (ht:P.underlying t=some (.slice e))(hi:P.info? e=some i)(hz:i.zero=some (.int .u8 0))(hsize:i.size=1)(hby:i.bytes=1)
  (hs:a.eval sl=v)(hown:Ya6 w base e v l)(hx:a.eval x=.slice (some ad) 1 c)(hc:w.cell? ad=some (.int .u8 (b.toNat:Int)))(hbytes:l.length+1≤140737488355328)(hbase:base≤w.heap.size)
  (h:∀v' w',Ya6 w' base e v' (l++[b])→w.grownBy w' v.ownBlock→wpList P ops Q rest (a.put o.dst v') w'):wpList P ops Q (o::rest) a w:=
 wpList_append_own w hgd sl x t ho base e i _ 1 1 ht hi hz hsize hby rfl (by decide) v _ _ hs hown ad 1 c [.int .u8 (b.toNat:Int)] hx rfl
  (fun j u hj=>by
   match j,hj with
   |0,hj=>cases hj;rw[show ad.add 0=ad from by unfold Addr.add;simp];exact hc)
  (by intro u hu;rw[List.mem_singleton] at hu;subst hu;rfl) (by unfold maxLen;omega) (by omega) hbase
  fun v' w' h1 h2 _=>h v' w' (Ya6.grow rfl rfl h1) h2
end
end Go.Proofs.YtnamlooifcpoaaaGreatDoor