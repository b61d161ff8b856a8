/- StripsChecks, 22. No condition. -/
import Derived.Test.YtjjmalchelniiaaGreatDoorStripsChecksMd
import Derived.Test.YtjjmalchelniiaaGreatDoorStripsChecksMe
import Derived.Test.YtjjmalchelniiaaGreatDoorStripsChecksMh
import Derived.Test.YtjjmalchelniiaaGreatDoorStripsChecksMs
import Derived.Test.YtjjmalchelniiaaGreatDoorStripsChecksMu
import Derived.BigQuiet
open Go.Proofs.Tryz
namespace Go.Proofs.YtjjmalchelniiaaGreatDoor
section
open Go.ChangeShapes Go.WideShapes Go.ChangeAt Go.RowKit
abbrev Ko:=@decide_eq_false
abbrev Kp:=@decide_eq_true
abbrev Kq:=@List.mem_map_of_mem
abbrev Kr:=@List.getElem_map
abbrev Ks:=@List.mem_of_find?_eq_some
abbrev Kt:=@List.find?_eq_none
abbrev Ku:=@Bool.false_and
abbrev Kv:=@List.dropLast_eq_take
abbrev Kw:=@List.find?_some
def GD (x:ByteArray×Int):List Value:=[.string x.1,.int .i64 x.2]
def AC (x:ByteArray×Int):List UInt8:=x.1.data.toList
theorem X4 (x:ByteArray×Int):∀v∈GD x,v.oneCell'=true:=by
 intro v hv;simp only[GD,Eb,Ed,Ek] at hv;rcases hv with rfl|rfl <;> rfl
theorem NE {B:Nat}{w x:World}(h:Below B w x)(n:Nat):Below B w (x.drewN n):=⟨h.os,h.tape,h.output,h.size,h.block⟩
def K3 (l:List ByteArray):List Value:=l.map .string
theorem jU (l:List ByteArray)(x:ByteArray):K3 (l++[x])=K3 l++[.string x]:=by simp[K3]
theorem aA {P:Program}{w:World}{ops:Array Oper}{rest:List Oper}{o:Oper}{a:Act}{Q:Exit->Act->World->Prop}{sl x:Operand}{t base e c:Nat}{i:TypeInfo}{z v:Value}{n:Nat}{l:List Value}{K:Nat}{y0:ByteArray}
  (m:o.guard=none)(ho:o.op=.call {callee:=.builtin .append,args:=#[sl,x],argTypes:=#[t,t]})
  (ht:P.underlying t=some (.slice e))(hi:P.info? e=some i)(s:i.zero=some z)(p:z.cells.size=1)(b:i.size=1)(q:i.bytes=16)
  (hs:a.eval sl=v)(f:w.ownsRow base e 1 v n l)(y:a.eval x=.slice (some ⟨K,0,none⟩) 1 c)(A:w.cell? ⟨K,0,none⟩=some (.string y0))(hn:n<=1048576)(d:base<=w.heap.size)
  (h:∀k g,g.ownsRow base e 1 k (n+1) (l++[.string y0])->w.grownBy g v.ownBlock->wpList P ops Q rest (a.put o.dst k) g):wpList P ops Q (o::rest) a w:=
 Dk w m sl x t ho base e i z 1 16 ht hi s b q p (by decide) v n l hs f ⟨K,0,none⟩ 1 c [.string y0] y rfl
  (fun j u hj=>by
   match j,hj with
   |0,hj=>cases hj;exact A)
  (by intro u r;rw[Df] at r;subst r;rfl) (by unfold maxLen;omega) (by omega) d
  fun k g h1 h2 _=>h k g h1 h2
theorem kR:(prog.info? 9).map (fun i=>(i.zero,i.size,i.bytes))=some (some (.string ⟨#[]⟩),1,16):=by kernel_rfl
end
section
def gtk (all:List (ByteArray×Int))(b:List UInt8):Int×Int×Nat:=
 if (tk (all.map AC) b 25 1).1=0 then
  match all.find? (fun x=>AC x==b.take (tk (all.map AC) b 25 1).2) with
  |some x=>(x.2,0,(tk (all.map AC) b 25 1).2)
  |none=>(0,0,0)
 else (0,(tk (all.map AC) b 25 1).1,0)
theorem eC {all:List (ByteArray×Int)}(b:BY (all.map AC)){x y:ByteArray×Int}(c:x∈all)(d:y∈all)(h:AC x=AC y):x=y:=by
 obtain⟨i,hi,rfl⟩:=Jz c;obtain⟨j,hj,rfl⟩:=Jz d;by_cases a:i=j
 ·subst a;rfl
 ·exfalso;have:=Pd.1 b i j (by simpa using hi) (by simpa using hj) a;rw[Kr,Kr,h,IF] at this;cases this
theorem lN {all:List (ByteArray×Int)}(c:BY (all.map AC)){x:ByteArray×Int}(a:x∈all){q:List UInt8}(b:AC x=q):all.find? (fun y=>AC y==q)=some x:=by
 cases h:all.find? (fun y=>AC y==q) with
 |none=>
  have:=Kt.1 h x a;rw[b] at this;simp at this
 |some y=>
  have h1:=Kw h;have h2:=Ks h;rw[eC c h2 a (by rw[b];simpa using h1)]
theorem lB {all:List (ByteArray×Int)}(a:BY (all.map AC)){b:List UInt8}{n:Nat}{x:ByteArray×Int}(ht:tk (all.map AC) b 25 1=(0,n))(c:x∈all)(d:AC x=b.take n):gtk all b=(x.2,0,n):=by
 unfold gtk;rw[ht,Bc rfl,lN a c d]
theorem MW {all:List (ByteArray×Int)}{b:List UInt8}{n:Nat}{f:Int}(ht:tk (all.map AC) b 25 1=(f,n))(a:f≠0):gtk all b=(0,f,0):=by
 unfold gtk;rw[ht,Bb a]
theorem P7 {all:List (ByteArray×Int)}(a:BY (all.map AC)){b:List UInt8}{x:ByteArray×Int}(c:x∈all)(e:1<=(AC x).length)(h1:(AC x).length<=24)(d:(AC x).isPrefixOf b=true):gtk all b=(x.2,0,(AC x).length):=
 lB a (QG a (Kq c) d e (by omega)) c (F4.1 d).symm
theorem TN {rows:List (List UInt8)}{b:List UInt8}{k n:Nat}(h:b.length<n):tk rows b (k+1) n=(2,0):=by
 unfold tk;rw[Bc h]
theorem XF {rows:List (List UInt8)}{b:List UInt8}{k n:Nat}(hn:n<=b.length)(h:∀r∈rows,(b.take n).isPrefixOf r=false):tk rows b (k+1) n=(3,0):=by
 unfold tk;rw[Bb (by omega),Bb (fun hm=>by have:=h _ hm;rw[IF] at this;cases this),Bb];rw[K8];rintro⟨r,hr,a⟩;rw[h r hr] at a;cases a
theorem Qm {rows:List (List UInt8)}{b:List UInt8}{k n:Nat}(hn:n<=b.length)(h:b.take n∉rows){r:List UInt8}(hr:r∈rows)(a:(b.take n).isPrefixOf r=true):tk rows b (k+1) n=tk rows b k (n+1):=by
 rw[tk,Bb (by omega),Bb h,Bc (K8.2 ⟨r,hr,a⟩)]
theorem eE {q r:List UInt8}(h:q.isPrefixOf r=true)(hl:q.length<r.length):q.isPrefixOf r.dropLast=true:=by
 rw[F4] at h ⊢;rw[Kv,Cj,Bw (by omega)];exact h
theorem S4 (c:Nat):∀(n l:Nat),n<=l->(AI c l).take n=AI (c / 2^(l-n)) n
 |0,_,_=>by simp[AI]
 |n+1,0,h=>by omega
 |n+1,l+1,h=>by
  rw[AI,Dp,S4 c n l (by omega),AI,Nat.add_sub_add_right,Nat.div_div_eq_div_mul,<-Nat.pow_add,show l-n+n=l by omega]
theorem U4 {q:List UInt8}(a:AK q=true){c l:Nat}(hc:c<2^l):q.isPrefixOf (AI c l)=(decide (q.length<=l)&&(c / 2^(l-q.length)==num q)):=by
 by_cases hl:q.length<=l
 ·rw[Ju,F4,S4 c _ _ hl,Kp hl,Jw,Bm];constructor
  ·intro h;have e:=C8 num h;rw[IM,Bn] at e
   ·exact e
   ·rw[Nat.div_lt_iff_lt_mul (Cc _),<-Nat.pow_add,show q.length+(l-q.length)=l by omega];exact hc
  ·intro h;rw[h];exact L1 q a
 ·rw[Ko hl,Ku];cases h:q.isPrefixOf (AI c l) with
  |false=>rfl
  |true=>
   have:=H3 h;rw[BN] at this;exact absurd this hl
end
section
open Go.RowKit Go.Lib
theorem Tr {inter:Bool}{k c:Int}(h:k<0\/5<k\/c<0\/3<c\/(k=5/\0<c)):B1 inter k c=⟨#[]⟩:=by
 by_cases hc:c<0\/4<=c
 ·exact Rn hc
 ·unfold B1;rw[Bc (by omega)];rcases (by omega:c=0\/c=1\/c=2\/c=3) with rfl|rfl|rfl|rfl
  all_goals
   rcases (by omega:(k<0\/5<k)\/k=5) with b|rfl
   ·have a:∀i:Int,0<=i->i<=5->¬ k=i:=fun i h1 h2 e=>by omega
    cases inter <;> simp[MH,KN,KL,a 0,a 1,a 2,a 3,a 4,a 5]
   ·first
     |(exfalso;omega)
     |(cases inter <;> rfl)
end
section
open Go.RowKit
theorem PM {a b:ByteArray}:a=b↔a.data.toList=b.data.toList:=by
 constructor
 ·rintro rfl;rfl
 ·intro h;obtain⟨⟨l⟩⟩:=a;obtain⟨⟨m⟩⟩:=b;cases h;rfl
end
end Go.Proofs.YtjjmalchelniiaaGreatDoor
