/- No condition. -/
import Derived.Test.YtnamlooifcpoaaaGreatDoorScreensStillMc
import Derived.Test.YtnamlooifcpoaaaGreatDoorScreensStillMe
import Derived.WalkKit
import Derived.Lib.Hide
import Derived.Test.YtnamlooifcpoaaaGreatDoorChecked
import Derived.OwnWalk
import Derived.Laws.AppendOwn
import Derived.ChangeMaps5
namespace Go.Proofs.YtnamlooifcpoaaaGreatDoor
open Go.RowKit Go.Lib Go.ChangeShapes Go.WideShapes Go.ChangeAt
def Yk3 (w:World)(p:Option Addr)(n:Nat)(f:Nat→Int):Prop:=n=0∨∃b o,p=some ⟨b,o,none⟩∧b<w.heap.size∧∀i,i<n→w.cell? ⟨b,o+i,none⟩=some (.int .i64 (f i))
theorem Yk3.below {w w':World}{p:Option Addr}{n:Nat}{f:Nat→Int}(h:Yk3 w p n f)(hb:Below w.heap.size w w'):Yk3 w' p n f:=by
 rcases h with h|⟨b,o,rfl,hl,h⟩
 ·exact .inl h
 ·exact .inr ⟨b,o,rfl,by have:=hb.size;omega,fun i hi=>(hb.cell (p:=⟨b,o+i,none⟩) hl).trans (h i hi)⟩
def Yde (w:World)(p:Option Addr)(l:List Int):Prop:=Yk3 w p l.length fun i=>l.getD i 0
theorem Yde.below {w w':World}{p:Option Addr}{l:List Int}(h:Yde w p l)(hb:Below w.heap.size w w'):Yde w' p l:=Yk3.below h hb
theorem Yde.nil (w:World)(p:Option Addr):Yde w p []:=.inl rfl
theorem Yde.hold {w:World}{p:Option Addr}{l:List Int}(h:Yde w p l)(h0:0<l.length):∃b o,p=some ⟨b,o,none⟩∧b<w.heap.size∧∀x,Below w.heap.size w x→∀i,i<l.length→x.cell? ⟨b,o+i,none⟩=some (.int .i64 (l.getD i 0)):=by
 rcases h with h|⟨b,o,rfl,hl,h⟩
 ·omega
 ·exact⟨b,o,rfl,hl,fun x hx i hi=>(World.cell?_of_block (a:=⟨b,o+i,none⟩) (hx.block b hl)).trans (h i hi)⟩
section
variable {H:Type}{enc:TypeId×Value→H}{P:Program}
end
def Yox (l:List Int):List Value:=l.map fun x=>.int .i64 x
theorem Yly (l:List Int)(x:Int):Yox (l++[x])=Yox l++[.int .i64 x]:=by simp[Yox]
theorem Yoy {w:World}{base e:Nat}{v:Value}{l:List Int}{n:Nat}(hl:l.length=n)(h:w.ownsRow base e 1 v n (Yox l)):
  ∃(q:Option Addr) (cap:Nat),v=.slice q n cap∧Yde w q l:=by
 subst hl;have h0:=h;rcases h.2 with ⟨rfl,h1⟩|⟨g,cap,cur,rfl,_,hg,_⟩
 ·exact⟨none,0,by rw[h1],.inl h1⟩
 ·refine⟨_,cap,rfl,.inr ⟨g,0,rfl,(Array.getElem?_eq_some_iff.1 hg).1,fun i hi=>?_⟩⟩;have:=World.ownsRow.cells (g:=g) h0 rfl i (.int .i64 (l.getD i 0)) (by simp[Yox,List.getD,hi]);rwa [Addr.add_mid] at this
theorem Yv6:(Tryz.prog.info? 3).map (fun i=>(i.zero,i.size,i.bytes))=some (some (.int .i64 0),1,8):=by kernel_rfl
section
variable {P:Program}
theorem Ygj {w:World}{base:Nat}{t ty e:TypeId}{i:TypeInfo}{z:Value}{size bytes:Nat}(ht:P.underlying t=some (.slice e))(hi:P.info? e=some i)(hz:i.zero=some z)(hsize:i.size=size)(hby:i.bytes=bytes)(hzs:z.cells.size=size)(hsz:0<size)
  {v:Value}{n:Nat}{xs:List Value}(hown:w.ownsRow base e size v n xs){a:Addr}{m c:Nat}{news:List Value}(hl:news.length=m*size)(hnews:∀j u,news[j]? =some u→w.cell? (a.add j)=some u)(h1:∀u∈news,u.oneCell'=true)
  (h63:n+m≤maxLen)(hbytes:(n+m)*bytes≤140737488355328){v':Value}{w':World}(hr:(Builtin.append_ #[t,t] ty #[v,.slice (some a) m c]).run P w=.ok v' w'):
  ∀k,v'.ownBlock=some k→v.ownBlock=some k∨w.heap.size≤k:=by
 intro k hk;have hsmall:n+m≤9223372036854775807:=by simp only[maxLen] at h63;omega
 rcases hown.2 with ⟨rfl,rfl⟩|⟨g,cap,cur,rfl,_,hg,hnc,hcm,hcs,htake⟩
 ·have hx:xs=[]:=List.eq_nil_of_length_eq_zero (by simpa using hown.1);subst hx;obtain⟨v2,w2,hr2,ho2,-,-⟩:=run_append_own (P:=P) w w.heap.size t ty e i z size bytes ht hi hz hsize hby hzs hsz (.slice none 0 0) 0 [] (World.ownsRow_nil ..) a m c news hl hnews h1 h63 hbytes (Nat.le_refl _);rw[hr] at hr2;injection hr2 with e1 e2;subst e1 e2;exact .inr (ho2.lt k hk).1
 ·by_cases hroom:n+m≤cap
  ·have hfit:n*i.size+news.length≤cur.size:=by rw[hl,hcs,hsize,←Nat.add_mul];exact Nat.mul_le_mul_right _ hroom
   have hr2:=run_append_room (P:=P) w t ty e i ht hi g n cap cur hg a m c news (by rw[hl,hsize]) hnews h1 hroom hfit;rw[hr] at hr2;injection hr2 with e1 e2;subst e1;exact .inl hk
  ·have holds:∀j u,xs[j]? =some u→w.cell? ((⟨g,0,none⟩:Addr).add j)=some u:=hown.cells (g:=g) rfl;have hr2:=run_append_grow (P:=P) w t ty e i z ht hi hz ⟨g,0,none⟩ n cap xs (by rw[hown.1,hsize]) holds a m c news (by rw[hl,hsize]) hnews (by omega) (by omega) (growslice_fits (by omega) (by rw[hby];exact hbytes));rw[hr] at hr2;injection hr2 with e1 e2;subst e1;injection hk with hk
   exact .inr (Nat.le_of_eq hk)
theorem Ye1 {w:World}{ops:Array Oper}{rest:List Oper}{o:Oper}{a:Act}{Q:Exit→Act→World→Prop}{sl x:Operand}{t base e c:Nat}{i:TypeInfo}{z v:Value}{n:Nat}{xs:List Value}{K:Nat}{y0:Int}
  (hgd:o.guard=none)(ho:o.op=.call {callee:=.builtin .append,args:=#[sl,x],argTypes:=#[t,t]})
  (ht:P.underlying t=some (.slice e))(hi:P.info? e=some i)(hz:i.zero=some z)(hzs:z.cells.size=1)(hsize:i.size=1)(hby:i.bytes=8)
  (hs:a.eval sl=v)(hown:w.ownsRow base e 1 v n xs)(hx:a.eval x=.slice (some ⟨K,0,none⟩) 1 c)(c0:w.cell? ⟨K,0,none⟩=some (.int .i64 y0))(hn:n≤1048576)(hbase:base≤w.heap.size)
  (h:∀v' w',w'.ownsRow base e 1 v' (n+1) (xs++[.int .i64 y0])→w.grownBy w' v.ownBlock→(∀k,v'.ownBlock=some k→v.ownBlock=some k∨w.heap.size≤k)→wpList P ops Q rest (a.put o.dst v') w'):wpList P ops Q (o::rest) a w:=by
 refine wpList_plain hgd fun K' hK=>?_;have hnews:∀(j:Nat) u,([.int .i64 y0]:List Value)[j]? =some u→w.cell? ((⟨K,0,none⟩:Addr).add j)=some u:=fun j u hj=>by
  rw[Addr.add_mid,Nat.zero_add]
  match j,hj with
  |0,hj=>cases hj;exact c0
 have hv1:∀u∈([.int .i64 y0]:List Value),u.oneCell'=true:=by intro u hu;rw[List.mem_singleton] at hu;subst hu;rfl
 obtain⟨v',w',hr,h2,h3,-⟩:=run_append_own (P:=P) w base t o.type e i z 1 8 ht hi hz hsize hby hzs (by decide) v n xs hown ⟨K,0,none⟩ 1 c _ rfl hnews hv1 (by unfold maxLen;omega) (by omega) hbase;have h4:=Ygj ht hi hz hsize hby hzs (by decide) hown rfl hnews hv1 (by unfold maxLen;omega) (by omega) hr;unfold Oper.wp execOp
 simp only[ho,resolve,invoke,builtin,Sem.run_bind,Sem.run_pure,Result.andThen_ok,List.map_toArray,List.map_cons,List.map_nil,hs,hx,hr];exact hK _ _ (h _ _ h2 h3 h4)
end
end Go.Proofs.YtnamlooifcpoaaaGreatDoor