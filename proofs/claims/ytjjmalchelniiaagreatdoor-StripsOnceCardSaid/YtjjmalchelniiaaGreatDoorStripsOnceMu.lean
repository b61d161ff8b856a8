/- Part 21 of StripsOnce. No condition. -/
import Derived.Test.YtjjmalchelniiaaGreatDoorStripsOnceMd
import Derived.Test.YtjjmalchelniiaaGreatDoorStripsOnceMe
import Derived.Test.YtjjmalchelniiaaGreatDoorStripsOnceMf
import Derived.Test.YtjjmalchelniiaaGreatDoorStripsOnceMr
import Derived.Test.YtjjmalchelniiaaGreatDoorStripsOnceMt
import Derived.WalkKit
import Derived.OwnWalk
import Derived.BigQuiet
import Derived.Deep.Slices
import Derived.Deep.MidRow
import Derived.WalkMore
import Derived.IntWalk
import Derived.Deep.QuietTactic
namespace Go.Proofs.YtjjmalchelniiaaGreatDoor
open Go.ChangeShapes Go.WideShapes Go.ChangeAt Go.RowKit
def Yv3 (x:ByteArray×Int):List Value:=[.string x.1,.int .i64 x.2]
def Ya1 (x:ByteArray×Int):List UInt8:=x.1.data.toList
theorem Y8j (x:ByteArray×Int):∀v∈Yv3 x,v.oneCell'=true:=by
 intro v hv;simp only[Yv3,List.mem_cons,List.not_mem_nil,or_false] at hv;rcases hv with rfl|rfl <;> rfl
theorem Yem {B:Nat}{w x:World}(h:Below B w x)(n:Nat):Below B w (x.drewN n):=⟨h.os,h.tape,h.output,h.size,h.block⟩
def Yet (l:List ByteArray):List Value:=l.map .string
theorem Yug (l:List ByteArray)(x:ByteArray):Yet (l++[x])=Yet l++[.string x]:=by simp[Yet]
theorem Yuz {P:Program}{w:World}{ops:Array Oper}{rest:List Oper}{o:Oper}{a:Act}{Q:Exit→Act→World→Prop}{sl x:Operand}{t base e c:Nat}{i:TypeInfo}{z v:Value}{n:Nat}{xs:List Value}{K:Nat}{y0:ByteArray}
  (hgd:o.guard=none)(ho:o.op=.call {callee:=.builtin .append,args:=#[sl,x],argTypes:=#[t,t]})
  (ht:P.underlying t=some (.slice e))(hi:P.info? e=some i)(hz:i.zero=some z)(hzs:z.cells.size=1)(hsize:i.size=1)(hby:i.bytes=16)
  (hs:a.eval sl=v)(hown:w.ownsRow base e 1 v n xs)(hx:a.eval x=.slice (some ⟨K,0,none⟩) 1 c)(c0:w.cell? ⟨K,0,none⟩=some (.string y0))(hn:n≤1048576)(hbase:base≤w.heap.size)
  (h:∀v' w',w'.ownsRow base e 1 v' (n+1) (xs++[.string y0])→w.grownBy w' v.ownBlock→wpList P ops Q rest (a.put o.dst v') w'):wpList P ops Q (o::rest) a w:=
 wpList_append_own w hgd sl x t ho base e i z 1 16 ht hi hz hsize hby hzs (by decide) v n xs hs hown ⟨K,0,none⟩ 1 c [.string y0] hx rfl
  (fun j u hj=>by
   match j,hj with
   |0,hj=>cases hj;exact c0)
  (by intro u hu;rw[List.mem_singleton] at hu;subst hu;rfl) (by unfold maxLen;omega) (by omega) hbase
  fun v' w' h1 h2 _=>h v' w' h1 h2
theorem Qd1:(Tryz.prog.info? 9).map (fun i=>(i.zero,i.size,i.bytes))=some (some (.string ⟨#[]⟩),1,16):=by kernel_rfl
end Go.Proofs.YtjjmalchelniiaaGreatDoor
namespace Go.Proofs.YtjjmalchelniiaaGreatDoor
def gtk (all:List (ByteArray×Int))(b:List UInt8):Int×Int×Nat:=
 if (tk (all.map Ya1) b 25 1).1=0 then
  match all.find? (fun x=>Ya1 x==b.take (tk (all.map Ya1) b 25 1).2) with
  |some x=>(x.2,0,(tk (all.map Ya1) b 25 1).2)
  |none=>(0,0,0)
 else (0,(tk (all.map Ya1) b 25 1).1,0)
theorem Qde {all:List (ByteArray×Int)}(hf:Yhh (all.map Ya1)){x y:ByteArray×Int}(hx:x∈all)(hy:y∈all)(h:Ya1 x=Ya1 y):x=y:=by
 obtain⟨i,hi,rfl⟩:=List.getElem_of_mem hx;obtain⟨j,hj,rfl⟩:=List.getElem_of_mem hy;by_cases hij:i=j
 ·subst hij;rfl
 ·exfalso;have:=Ykh.1 hf i j (by simpa using hi) (by simpa using hj) hij;rw[List.getElem_map,List.getElem_map,h,Ydv] at this;cases this
theorem Y7z {all:List (ByteArray×Int)}(hf:Yhh (all.map Ya1)){x:ByteArray×Int}(hx:x∈all){q:List UInt8}(hq:Ya1 x=q):all.find? (fun y=>Ya1 y==q)=some x:=by
 cases h:all.find? (fun y=>Ya1 y==q) with
 |none=>
  have:=List.find?_eq_none.1 h x hx;rw[hq] at this;simp at this
 |some y=>
  have h1:=List.find?_some h;have h2:=List.mem_of_find?_eq_some h;rw[Qde hf h2 hx (by rw[hq];simpa using h1)]
theorem Qhs {all:List (ByteArray×Int)}(hf:Yhh (all.map Ya1)){b:List UInt8}{n:Nat}{x:ByteArray×Int}(ht:tk (all.map Ya1) b 25 1=(0,n))(hx:x∈all)(hq:Ya1 x=b.take n):gtk all b=(x.2,0,n):=by
 unfold gtk;rw[ht,if_pos rfl,Y7z hf hx hq]
theorem Yjp {all:List (ByteArray×Int)}{b:List UInt8}{n:Nat}{f:Int}(ht:tk (all.map Ya1) b 25 1=(f,n))(hf:f≠0):gtk all b=(0,f,0):=by
 unfold gtk;rw[ht,if_neg hf]
theorem Yok {all:List (ByteArray×Int)}(hf:Yhh (all.map Ya1)){b:List UInt8}{x:ByteArray×Int}(hx:x∈all)(h0:1≤(Ya1 x).length)(h1:(Ya1 x).length≤24)(hp:(Ya1 x).isPrefixOf b=true):gtk all b=(x.2,0,(Ya1 x).length):=
 Qhs hf (Y2u hf (List.mem_map_of_mem hx) hp h0 (by omega)) hx (Yb5.1 hp).symm
theorem Yut {rows:List (List UInt8)}{b:List UInt8}{k n:Nat}(h:b.length<n):tk rows b (k+1) n=(2,0):=by
 unfold tk;rw[if_pos h]
theorem Qbn {rows:List (List UInt8)}{b:List UInt8}{k n:Nat}(hn:n≤b.length)(h:∀r∈rows,(b.take n).isPrefixOf r=false):tk rows b (k+1) n=(3,0):=by
 unfold tk;rw[if_neg (by omega),if_neg (fun hm=>by have:=h _ hm;rw[Ydv] at this;cases this),if_neg];rw[List.any_eq_true];rintro⟨r,hr,hp⟩;rw[h r hr] at hp;cases hp
theorem Yus {rows:List (List UInt8)}{b:List UInt8}{k n:Nat}(hn:n≤b.length)(h:b.take n∉rows){r:List UInt8}(hr:r∈rows)(hp:(b.take n).isPrefixOf r=true):tk rows b (k+1) n=tk rows b k (n+1):=by
 rw[tk,if_neg (by omega),if_neg h,if_pos (List.any_eq_true.2 ⟨r,hr,hp⟩)]
theorem Qew {q r:List UInt8}(h:q.isPrefixOf r=true)(hl:q.length<r.length):q.isPrefixOf r.dropLast=true:=by
 rw[Yb5] at h ⊢;rw[List.dropLast_eq_take,List.take_take,Nat.min_eq_left (by omega)];exact h
theorem Ylv (c:Nat):∀(n l:Nat),n≤l→(Yav c l).take n=Yav (c / 2^(l-n)) n
 |0,_,_=>by simp[Yav]
 |n+1,0,h=>by omega
 |n+1,l+1,h=>by
  rw[Yav,List.take_succ_cons,Ylv c n l (by omega),Yav,Nat.add_sub_add_right,Nat.div_div_eq_div_mul,←Nat.pow_add,show l-n+n=l by omega]
theorem Y1q {q:List UInt8}(hq:Yax q=true){c l:Nat}(hc:c<2^l):q.isPrefixOf (Yav c l)=(decide (q.length≤l)&&(c / 2^(l-q.length)==num q)):=by
 by_cases hl:q.length≤l
 ·rw[Bool.eq_iff_iff,Yb5,Ylv c _ _ hl,decide_eq_true hl,Bool.true_and,beq_iff_eq];constructor
  ·intro h;have e:=congrArg num h;rw[Ycw,Nat.mod_eq_of_lt] at e
   ·exact e
   ·rw[Nat.div_lt_iff_lt_mul (Nat.two_pow_pos _),←Nat.pow_add,show q.length+(l-q.length)=l by omega];exact hc
  ·intro h;rw[h];exact Yg3 q hq
 ·rw[decide_eq_false hl,Bool.false_and];cases h:q.isPrefixOf (Yav c l) with
  |false=>rfl
  |true=>
   have:=Yb4 h;rw[Yal] at this;exact absurd this hl
end Go.Proofs.YtjjmalchelniiaaGreatDoor
namespace Go.Proofs.YtjjmalchelniiaaGreatDoor
open Go.RowKit Go.Lib
theorem Ypg {inter:Bool}{k c:Int}(h:k<0∨5<k∨c<0∨3<c∨(k=5∧0<c)):Yby inter k c=⟨#[]⟩:=by
 by_cases hc:c<0∨4≤c
 ·exact Yph hc
 ·unfold Yby
  rw[if_pos (by omega)];rcases (by omega:c=0∨c=1∨c=2∨c=3) with rfl|rfl|rfl|rfl
  all_goals
   rcases (by omega:(k<0∨5<k)∨k=5) with hk|rfl
   ·have h0:∀i:Int,0≤i→i≤5→¬ k=i:=fun i h1 h2 e=>by omega
    cases inter <;> simp[Yz6,Ykj,Ykk,h0 0,h0 1,h0 2,h0 3,h0 4,h0 5]
   ·first
     |(exfalso;omega)
     |(cases inter <;> rfl)
end Go.Proofs.YtjjmalchelniiaaGreatDoor
namespace Go.Proofs.YtjjmalchelniiaaGreatDoor
open Go.RowKit
theorem Qi9 {a b:ByteArray}:a=b↔a.data.toList=b.data.toList:=by
 constructor
 ·rintro rfl;rfl
 ·intro h;obtain⟨⟨l⟩⟩:=a;obtain⟨⟨m⟩⟩:=b;cases h;rfl
end Go.Proofs.YtjjmalchelniiaaGreatDoor