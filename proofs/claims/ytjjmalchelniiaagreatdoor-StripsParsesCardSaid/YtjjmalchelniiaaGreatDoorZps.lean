/- No condition. -/
import Derived.Test.YtjjmalchelniiaaGreatDoorZpd
import Derived.Test.YtjjmalchelniiaaGreatDoorZpe
import Derived.Test.YtjjmalchelniiaaGreatDoorZpf
import Derived.Test.YtjjmalchelniiaaGreatDoorZpp
import Derived.Test.YtjjmalchelniiaaGreatDoorZpr
import Derived.BigQuiet
import Derived.Deep.Slices
open Go.Proofs.Tryz
open Go renaming Value->A0,World->A5,Addr->Aa,Calls->A9
set_option maxHeartbeats 8000000
namespace Go.Proofs.YtjjmalchelniiaaGreatDoor
section
open Go.ChangeShapes Go.WideShapes Go.ChangeAt Go.RowKit
theorem Wcw{p:Prop}(h:p:=by
 refine .inr ⟨b,0,rfl,(E9.1 h).1,fun i hi=>?_⟩;rw[Bn];exact AA h (by simp[hi])):p:=h
theorem Wcv{p:Prop}(h:p:=by
 go_wp2
 go_ret3
 exact Sy (i:=0) vR (C6 _) (fun h=>uA) (fun _=>rfl) (by rw[M.out];exact q)):p:=h
theorem vQ{p:Prop}(h:p:=by simpa using hj):p:=h
theorem vR{p:Prop}(h:p:=by rw[A.out];exact F.out):p:=h
abbrev Kb:=@World.cell?_of_block
abbrev Kc:=@List.mem_map_of_mem
abbrev Kd:=@IntWalk.i64_in
abbrev Ke:=@List.getElem_map
abbrev Kf:=@decide_eq_true
abbrev Kg:=@decide_eq_false
abbrev Kh:=@List.length_map
abbrev Ki:=@Addr.add_mid
abbrev Kj:=@List.mem_of_find?_eq_some
abbrev Kk:=@List.mem_map
abbrev Kl:=@Calls.quiet_of_same
abbrev Km:=@Lib.extract_data
abbrev Kn:=@List.find?_eq_none
abbrev Ko:=@List.dropLast_eq_take
abbrev Kp:=@List.find?_some
abbrev Kq:=@Bool.false_and
def GV (x:ByteArray×Int):List A0:=[.string x.1,.int .i64 x.2]
def rowC (x:ByteArray×Int):List UInt8:=x.1.data.toList
theorem Xr (x:ByteArray×Int):∀v∈GV x,v.oneCell'=true:=by
 intro v hv;simp only[GV,Ee,Eg,Ep] at hv;rcases hv with rfl|rfl <;> rfl
theorem KF {B:Nat}{w x:A5}(h:Below B w x)(n:Nat):Below B w (x.drewN n):=⟨h.os,h.tape,h.output,h.size,h.block⟩
def DN (w:A5)(p:Option Aa)(l:List ByteArray):Prop:=
 l=[]\/∃b o,p=some ⟨b,o,none⟩/\b<w.heap.size/\∀i,(h:i<l.length)->w.cell? ⟨b,o+i,none⟩=some (.string l[i])
theorem DN.below {w a:A5}{p:Option Aa}{l:List ByteArray}(h:DN w p l)(c:Below w.heap.size w a):DN a p l:=by
 rcases h with h|⟨b,o,h1,h2,h3⟩
 ·exact .inl h
 ·refine .inr ⟨b,o,h1,Bc h2 c.size,fun i hi=>?_⟩;rw[c.cell (p:=⟨b,o+i,none⟩) h2];exact h3 i hi
theorem DN.at {w:A5}{p:Option Aa}{l:List ByteArray}(h:DN w p l)(a:0<l.length):
  ∃b o,p=some ⟨b,o,none⟩/\b<w.heap.size/\∀i,(h:i<l.length)->w.cell? ⟨b,o+i,none⟩=some (.string l[i]):=by
 rcases h with rfl|h
 ·cases a
 ·exact h
def DA (l:List ByteArray):List A0:=l.map .string
theorem OP (l:List ByteArray)(x:ByteArray):DA (l++[x])=DA l++[.string x]:=by simp[DA]
theorem Tg {w:A5}{base e:Nat}{v:A0}{l:List ByteArray}(h:w.ownsRow base e 1 v l.length (DA l)):
  ∃(q:Option Aa) (cap:Nat),v=.slice q l.length cap/\DN w q l:=by
 have a:=h;rcases h.2 with ⟨rfl,h1⟩|⟨g,cap,b,rfl,_,hg,_⟩
 ·exact⟨none,0,by rw[h1],.inl (Dh h1)⟩
 ·refine⟨_,cap,rfl,.inr ⟨g,0,rfl,(E9.1 hg).1,fun i hi=>?_⟩⟩;have:=Di (g:=g) a rfl i (.string l[i]) (by simp[DA,hi]);rwa [Ki] at this
theorem XV {w i:A5}{base e j size b n q:Nat}{v l:A0}{m c:List A0}(h:w.ownsRow base e size v n m)(r:w.ownsRow base j b l q c)(d:e≠j)(hg:w.grownBy i l.ownBlock):i.ownsRow base e size v n m:=by
 refine h.kept hg ?_;cases hv:v.ownBlock with
 |none=>exact .inl rfl
 |some k=>
  right
  intro hk;rcases h.2 with ⟨rfl,_⟩|⟨g,cap,s,rfl,_,f,_⟩
  ·cases hv
  rcases r.2 with ⟨rfl,_⟩|⟨t,o,p,rfl,_,a,_⟩
  ·cases hk
  cases hv;injection hk with hk;obtain rfl:g=t:=hk;rw[f] at a;injection a with a;injection a with _ a;exact d a
theorem S5 {P:Program}{w:A5}{ops:Array Oper}{rest:List Oper}{o:Oper}{a:Act}{Q:Exit->Act->A5->Prop}{sl x:Operand}{t base e c:Nat}{i:TypeInfo}{z v:A0}{n:Nat}{l:List A0}{K:Nat}{y0:ByteArray}
  (m:o.guard=none)(ho:o.op=.call {callee:=.builtin .append,args:=#[sl,x],argTypes:=#[t,t]})
  (ht:P.underlying t=some (.slice e))(hi:P.info? e=some i)(s:i.zero=some z)(p:z.cells.size=1)(b:i.size=1)(q:i.bytes=16)
  (hs:a.eval sl=v)(f:w.ownsRow base e 1 v n l)(y:a.eval x=.slice (some ⟨K,0,none⟩) 1 c)(c0:w.cell? ⟨K,0,none⟩=some (.string y0))(hn:n<=1048576)(d:base<=w.heap.size)
  (h:∀k g,g.ownsRow base e 1 k (n+1) (l++[.string y0])->w.grownBy g v.ownBlock->wpList P ops Q rest (a.put o.dst k) g):wpList P ops Q (o::rest) a w:=
 Dl w m sl x t ho base e i z 1 16 ht hi s b q p sY v n l hs f ⟨K,0,none⟩ 1 c [.string y0] y rfl
  (fun j u hj=>by
   match j,hj with
   |0,hj=>cases hj;exact c0)
  tM tK sX d
  fun k g h1 h2 _=>h k g h1 h2
theorem Q1:(prog.info? 9).map (fun i=>(i.zero,i.size,i.bytes))=some (some (.string ⟨#[]⟩),1,16):=tN
theorem R4 {w:A5}{b:Nat}{l:List ByteArray}{T:TypeId}(h:w.heap[b]? =some (.cells (l.map Value.string).toArray T (0,0))):DN w (some ⟨b,0,none⟩) l:=by
 exact Wcw
end
section
def gtk (all:List (ByteArray×Int))(b:List UInt8):Int×Int×Nat:=
 if (tk (all.map rowC) b 25 1).1=0 then
  match all.find? (fun x=>rowC x==b.take (tk (all.map rowC) b 25 1).2) with
  |some x=>(x.2,0,(tk (all.map rowC) b 25 1).2)
  |none=>(0,0,0)
 else (0,(tk (all.map rowC) b 25 1).1,0)
theorem Qkp {all:List (ByteArray×Int)}(b:CJ (all.map rowC)){x y:ByteArray×Int}(c:x∈all)(d:y∈all)(h:rowC x=rowC y):x=y:=by
 obtain⟨i,hi,rfl⟩:=Jh c;obtain⟨j,hj,rfl⟩:=Jh d;by_cases a:i=j
 ·subst a;rfl
 ·exfalso;have:=QI.1 b i j tW vQ a;rw[Ke,Ke,h,JE] at this;cases this
theorem nG {all:List (ByteArray×Int)}(c:CJ (all.map rowC)){x:ByteArray×Int}(a:x∈all){q:List UInt8}(b:rowC x=q):all.find? (fun y=>rowC y==q)=some x:=by
 cases h:all.find? (fun y=>rowC y==q) with
 |none=>
  have:=Kn.1 h x a;rw[b] at this;simp at this
 |some y=>
  have h1:=Kp h;have h2:=Kj h;rw[Qkp c h2 a (by rw[b];simpa using h1)]
theorem VT {all:List (ByteArray×Int)}(a:CJ (all.map rowC)){b:List UInt8}{n:Nat}{x:ByteArray×Int}(ht:tk (all.map rowC) b 25 1=(0,n))(c:x∈all)(d:rowC x=b.take n):gtk all b=(x.2,0,n):=by
 unfold gtk;rw[ht,Bb rfl,nG a c d]
theorem ML {all:List (ByteArray×Int)}{b:List UInt8}{n:Nat}{f:Int}(ht:tk (all.map rowC) b 25 1=(f,n))(a:f≠0):gtk all b=(0,f,0):=by
 unfold gtk;rw[ht,Ba a]
theorem Qw {all:List (ByteArray×Int)}(a:CJ (all.map rowC)){b:List UInt8}{x:ByteArray×Int}(c:x∈all)(e:1<=(rowC x).length)(h1:(rowC x).length<=24)(d:(rowC x).isPrefixOf b=true):gtk all b=(x.2,0,(rowC x).length):=
 VT a (SE a (Kc c) d e sX) c (F7.1 d).symm
theorem VS {rows:List (List UInt8)}{b:List UInt8}{k n:Nat}(h:b.length<n):tk rows b (k+1) n=(2,0):=by
 unfold tk;rw[Bb h]
theorem eZ {rows:List (List UInt8)}{b:List UInt8}{k n:Nat}(hn:n<=b.length)(h:∀r∈rows,(b.take n).isPrefixOf r=false):tk rows b (k+1) n=(3,0):=by
 unfold tk;rw[Ba sX,Ba (fun hm=>by have:=h _ hm;rw[JE] at this;cases this),Ba];rw[Jn];rintro⟨r,hr,a⟩;rw[h r hr] at a;cases a
theorem RU {rows:List (List UInt8)}{b:List UInt8}{k n:Nat}(hn:n<=b.length)(h:b.take n∉rows){r:List UInt8}(hr:r∈rows)(a:(b.take n).isPrefixOf r=true):tk rows b (k+1) n=tk rows b k (n+1):=by
 rw[tk,Ba sX,Ba h,Bb (Jn.2 ⟨r,hr,a⟩)]
theorem Qly {q r:List UInt8}(h:q.isPrefixOf r=true)(hl:q.length<r.length):q.isPrefixOf r.dropLast=true:=by
 rw[F7] at h ⊢;rw[Ko,Co,Bv sX];exact h
theorem V7 (c:Nat):∀(n l:Nat),n<=l->(AF c l).take n=AF (c / 2^(l-n)) n
 |0,_,_=>by simp[AF]
 |n+1,0,h=>sX
 |n+1,l+1,h=>by
  rw[AF,Dq,V7 c n l sX,AF,Nat.add_sub_add_right,Dw,<-Nat.pow_add,show l-n+n=l by omega]
theorem Zs {q:List UInt8}(a:AH q=true){c l:Nat}(hc:c<2^l):q.isPrefixOf (AF c l)=(decide (q.length<=l)&&(c / 2^(l-q.length)==num q)):=by
 by_cases hl:q.length<=l
 ·rw[Jc,F7,V7 c _ _ hl,Kf hl,Jj,Bj];constructor
  ·intro h;have e:=Bz num h;rw[IQ,Bq] at e
   ·exact e
   ·rw[Nat.div_lt_iff_lt_mul (Ch _),<-Nat.pow_add,show q.length+(l-q.length)=l by omega];exact hc
  ·intro h;rw[h];exact Lq q a
 ·rw[Kg hl,Kq];cases h:q.isPrefixOf (AF c l) with
  |false=>rfl
  |true=>
   have:=HH h;rw[BS] at this;exact absurd this hl
end
section
open Go.RowKit Go.Lib
def PC (inter:Bool):List ByteArray:=
 if inter then [⟨#[49]⟩,⟨#[48,48,49,49]⟩,⟨#[48,48,49,48]⟩,⟨#[48,48,48,49,48,49]⟩,⟨#[48,49,49]⟩,⟨#[48,48,48,48,49,49,49]⟩,⟨#[48,48,48,48,49,49,48]⟩,⟨#[48,48,48,48,48,48,49,48,49]⟩,⟨#[48,49,48]⟩,⟨#[48,48,48,48,49,48,49]⟩,⟨#[48,48,48,48,49,48,48]⟩,⟨#[48,48,48,48,48,49,48,49]⟩,⟨#[48,48,48,49,49]⟩,⟨#[48,48,48,48,48,49,48,48]⟩,⟨#[48,48,48,48,48,48,49,49]⟩,⟨#[48,48,48,48,48,49,49]⟩,⟨#[48,48,48,49,48,48]⟩,⟨#[48,48,48,48,48,48,49,48,48]⟩,⟨#[48,48,48,48,48,48,48,49,49]⟩,⟨#[48,48,48,48,48,48,48,49,48]⟩,⟨#[48,48,48,48,48,48,48,48,49]⟩]
 else [⟨#[]⟩,⟨#[]⟩,⟨#[]⟩,⟨#[]⟩,⟨#[]⟩,⟨#[]⟩,⟨#[]⟩,⟨#[]⟩,⟨#[]⟩,⟨#[]⟩,⟨#[]⟩,⟨#[]⟩,⟨#[49]⟩,⟨#[48,48,49]⟩,⟨#[48,49,48]⟩,⟨#[48,49,49]⟩,⟨#[48,48,48,49]⟩,⟨#[48,48,48,48,48,49]⟩,⟨#[48,48,48,48,49,48]⟩,⟨#[48,48,48,48,49,49]⟩,⟨#[48,48,48,48,48,48,48,48,49]⟩]
theorem Ro (inter:Bool):(PC inter).length=21:=by cases inter <;> rfl
theorem bG {w:A5}{b:Nat}{l:List ByteArray}{T:TypeId}(h:w.heap[b]? =some (.cells (l.map Value.string).toArray T (0,0))):DN w (some ⟨b,0,none⟩) l:=by
 exact Wcw
theorem Qca (inter:Bool)(w:A5):A9 prog 144 #[.bool inter] w fun e a=>e=.returned (.slice (some ⟨w.heap.size,0,none⟩) 21 21)/\DN a (some ⟨w.heap.size,0,none⟩) (PC inter)/\Below w.heap.size w a:=by
 cases inter with
 |true=>
  go_enter func144,ntmps144
  go_wp2
  go_ret
  exact⟨rfl,bG (T:=9) (l:=PC true) (heap_alloc_new w _),(Dn _ w).alloc (B9 _) _⟩
 |false=>
  go_enter func144,ntmps144
  go_wp2
  go_ret
  exact⟨rfl,bG (T:=9) (l:=PC false) (heap_alloc_new w _),(Dn _ w).alloc (B9 _) _⟩
theorem T9 {inter:Bool}{k c:Int}(h:k<0\/5<k\/c<0\/3<c\/(k=5/\0<c)):BC inter k c=⟨#[]⟩:=by
 by_cases hc:c<0\/4<=c
 ·exact Vz hc
 ·unfold BC;rw[Bb sX];rcases (by omega:c=0\/c=1\/c=2\/c=3) with rfl|rfl|rfl|rfl
  all_goals
   rcases (by omega:(k<0\/5<k)\/k=5) with hk|rfl
   ·have a:∀i:Int,0<=i->i<=5->¬ k=i:=fun i h1 h2 e=>sX;cases inter <;> simp[NS,MM,LI,a 0,a 1,a 2,a 3,a 4,a 5]
   ·first
     |(exfalso;omega)
     |(cases inter <;> rfl)
end
section
open Go.RowKit
theorem LO {a b:ByteArray}:a=b↔a.data.toList=b.data.toList:=by
 constructor
 ·rintro rfl;rfl
 ·intro h;obtain⟨⟨l⟩⟩:=a;obtain⟨⟨m⟩⟩:=b;cases h;rfl
theorem Qol (s p:ByteArray):((s.extract 0 p.size).toList==p.toList)=p.data.toList.isPrefixOf s.data.toList:=by
 rw[Jc,Bj,Iu,Iu,F7];rw[Km]
 rfl
set_option maxRecDepth 100000 in
theorem jT (s p:ByteArray)(w:A5):
  A9 prog 162 #[.string s,.string p] w fun e b=>e=.returned (.bool (p.data.toList.isPrefixOf s.data.toList))/\w=b:=by
 have e1:s.data.toList.length=s.size:=rfl;have e2:p.data.toList.length=p.size:=rfl;have c:=Dm e1;have d:=Dm e2;clear e1 e2;by_cases h:p.size<=s.size
 ·have f:=Dm (Qol s p);have t0:decide (p.size<=s.size)=true:=tO
  go_enter func162,ntmps162
  go_wp2
  go_ret
  exact⟨AJ (by rw[f.out]),rfl⟩
 ·have a:p.data.toList.isPrefixOf s.data.toList=false:=by
   cases hh:p.data.toList.isPrefixOf s.data.toList with
   |false=>rfl
   |true=>
    have:=HH hh;rw[c.out,d.out] at this;exact absurd this h
  have F:=Dm a;have t0:decide (p.size<=s.size)=false:=tO;clear a h
  go_enter func162,ntmps162
  go_wp2
  go_ret
  exact⟨AJ F.out.symm,rfl⟩
theorem Y4v (s p:ByteArray)(r:Bool)(hr:p.data.toList.isPrefixOf s.data.toList=r)(w:A5):
  A9 prog 162 #[.string s,.string p] w fun e a=>e=.returned (.bool r)/\a=w:=
 (jT s p w).mono fun _ _ ⟨h1,h2⟩=>⟨by rw[h1,hr],h2.symm⟩
def aD (l:List ByteArray)(b:List UInt8)(at_:Nat)(w:A5)(e:Ending)(a:A5):Prop:=
 ∃i:Nat,e=.returned (.tuple #[.int .i64 (i:Int),.int .i64 ((at_+(tk (l.map fun x=>x.data.toList) b 25 1).2:Nat):Int),.int .i64 (tk (l.map fun x=>x.data.toList) b 25 1).1])/\
  ((tk (l.map fun x=>x.data.toList) b 25 1).1=0->∃h:i<l.length,l[i].data.toList=b.take (tk (l.map fun x=>x.data.toList) b 25 1).2)/\Below w.heap.size w a
def Zk (l:List ByteArray)(b:List UInt8)(at_:Nat)(w:A5)(e:Ending)(a:A5):Prop:=
 ∃i:Nat,e=.returned (.tuple #[.int .i64 (i:Int),.int .i64 ((at_+(tk (l.map fun x=>x.data.toList) b 25 1).2:Nat):Int),.int .i64 (tk (l.map fun x=>x.data.toList) b 25 1).1])/\
  ((tk (l.map fun x=>x.data.toList) b 25 1).1=0->∃h:i<l.length,l[i].data.toList=b.take (tk (l.map fun x=>x.data.toList) b 25 1).2)/\((tk (l.map fun x=>x.data.toList) b 25 1).1≠0->i=0)/\Below w.heap.size w a
theorem Sy {l:List ByteArray}{b:List UInt8}{at_:Nat}{w c:A5}{i n d:Nat}{f:Int}(h:tk (l.map fun x=>x.data.toList) b 25 1=(f,n))(a:at_+n=d)(e:f=0->∃h:i<l.length,l[i].data.toList=b.take n)(h1:f≠0->i=0)(g:Below w.heap.size w c):
  Zk l b at_ w (.returned (.tuple #[.int .i64 (i:Int),.int .i64 (d:Int),.int .i64 f])) c:=by
 subst a;refine⟨i,?_,?_,?_,g⟩
 ·rw[h]
 ·rw[h];exact e
 ·rw[h];exact h1
theorem Vi (s:ByteArray)(p n:Nat):(s.extract p (p+n)).data.toList=(s.data.toList.drop p).take n:=by
 rw[Km,Bm]
set_option maxRecDepth 100000 in
theorem SB (l:List ByteArray)(p:Option Aa)(cap:Nat)(s:ByteArray)(at_:Nat)(w:A5)(hc:DN w p l)(hm:l.length<=300)(hs:s.size<=1048576)(ha:at_<=s.size):
  A9 prog 131 #[.slice p l.length cap,.string s,.int .i64 (at_:Int)] w (Zk l (s.data.toList.drop at_) at_ w):=by
 obtain⟨d,j⟩:=Ah (s.data.toList.drop at_);have J:d.length=s.size-at_:=by rw[<-j,Bf];rfl
 have X:∀n,(s.extract at_ (at_+n)).data.toList=d.take n:=fun n=>by rw[Vi,j]
 have Q:=Dm X;have O:=Dm J;rw[j];have ad:=Dm j;obtain⟨rows,m⟩:=Ah (l.map fun x=>x.data.toList);have A:=Dm m;obtain⟨B,Y⟩:=Ah w.heap.size;have Z:∀x,Below B w x->∀i,(h:i<l.length)->∃b o,p=some ⟨b,o,none⟩/\x.cell? ⟨b,o+i,none⟩=some (.string l[i]):=by
  intro x P i hi;obtain⟨b,o,rfl,aa,u⟩:=hc.at sX;exact⟨b,o,rfl,(Kb (a:=⟨b,o+i,none⟩) (P.block b sX)).trans (u i hi)⟩
 have ae:=Dm Z;have K:Below B w w:=Dn _ _;have M:=Dm Y;clear Z hc Y m j X J
 go_enter func131,ntmps131
 go_wp2
 go_loopw [9] (fun v wr=>∃n:Nat,1<=n/\n<=26/\v=.int .i64 n/\Below B w wr/\Hid (tk rows d 25 1=tk rows d (26-n) n)) (fun v _=>26-(intOf v).toNat)
 case atStart=>exact⟨1,B9 _,sX,rfl,K,Dm rfl⟩
 case round=>
  clear K;obtain⟨n,af,hn2,rfl,q,hn⟩:=hrel;by_cases ag:n<=25
  ·have C:tk rows d (26-n) n=if d.length<n then (2,0) else if d.take n∈rows then (0,n) else if rows.any (fun r=>(d.take n).isPrefixOf r)=true then tk rows d (25-n) (n+1) else (3,0):=by
    rw[show 26-n=(25-n)+1 by omega,tk]
   have U:=Dm (hn.out.trans C);clear C;have t25:decide ((n:Int)<=25)=true:=tO;by_cases f:d.length<n
   ·have t0:decide ((s.size:Int)-at_<n)=true:=by simp;rw[O.out] at f;omega
    have F:=Dm (U.out.trans (Bb f));clear f
    exact Wcv
   ·have t0:decide ((s.size:Int)-at_<n)=false:=by simp;rw[O.out] at f;omega
    have R:=Dm (U.out.trans (Ba f));have hfit:at_+n<=s.size:=by rw[O.out] at f;omega
    clear U f
    go_wp2_with fail
    obtain⟨wo,rfl⟩:∃wo:A5,wo=wr:=⟨_,rfl⟩
    go_loopw [10,11] (fun v i wr=>∃(k:Nat) (sm:Bool),k<=l.length/\i=.int .i64 k/\v=.bool sm/\Below B w wr/\Hid (sm=(rows.take k).any (fun r=>(d.take n).isPrefixOf r))/\Hid (∀c,(hc:c<l.length)->c<k->l[c].data.toList≠d.take n)) (fun _ i _=>l.length-(intOf i).toNat)
    case atStart=>exact⟨0,false,Do _,rfl,rfl,q,Dm sZ,Dm (fun c _ h=>absurd h (Fi c))⟩
    case round=>
     clear q;obtain⟨k,sm,hk,rfl,rfl,q,t,G⟩:=hrel;by_cases g:k<l.length
     ·obtain⟨b,o,rfl,S⟩:=ae.out wr q k g;obtain⟨y,T⟩:=Ah (l[k]);rw[T] at S;have N:=Dm T;clear T
      go_wp2_with fail
      by_cases z:y.data.toList=d.take n
      ·have g0:(y.toList==(s.extract at_ (at_+n)).toList)=true:=by rw[Iu,Iu,Bj,Q.out];exact z
       have F:=Dm (R.out.trans (Bb (show d.take n∈rows by rw[<-A.out,<-z,<-N.out];exact Kc (Bl g))));have V:=Dm z;clear z
       go_quiet (fail)
       go_wp2
       go_ret3
       exact Sy vR rfl (fun _=>⟨g,by rw[N.out];exact V.out⟩) (fun h=>absurd rfl h) (by rw[M.out];exact KF q _)
      ·have g0:(y.toList==(s.extract at_ (at_+n)).toList)=false:=by
        rw[Iu,Iu,Fe,Q.out];exact z
       have V:=Dm z;have ST:Hid ((rows.take (k+1)).any (fun r=>(d.take n).isPrefixOf r)=(sm || (d.take n).isPrefixOf y.data.toList)):=Dm (by
        rw[<-A.out] at t ⊢;rw[t.out,Bd (by rw[Kh];exact g),List.any_append,Ke,N.out];simp)
       have L:Hid (∀c,(hc:c<l.length)->c<k+1->l[c].data.toList≠d.take n):=Dm (fun c hc h=>by
        by_cases e:c=k
        ·subst e;rw[N.out];exact V.out
        ·exact G.out c hc sX)
       clear z t G
       go_quiet (fail)
       have W:(wr.drewN nq).cell? ⟨b,o+k,none⟩=some (.string y):=S;have H:=KF q nq;generalize wr.drewN nq=wq at W H ⊢;clear S q
       go_wp2_with fail
       cases sm with
       |true=>
        go_quiet (fail)
        go_wp2
        go_roundw
        case rel=>exact⟨k+1,true,sX,tP,rfl,KF H _,Dm (by rw[ST.out];rfl),L⟩
        case measure=>simp[intOf];omega
       |false=>
        have I:(s.extract at_ (at_+n)).data.toList.isPrefixOf y.data.toList=(d.take n).isPrefixOf y.data.toList:=by rw[Q.out]
        generalize hr:(d.take n).isPrefixOf y.data.toList=r at I ST;have ah:=Dm I;clear I hr;have s1:=Dm (show (at_:Int)+n<=s.size by omega);have s2:=Dm (show (at_:Int)<=(at_:Int)+n by omega);have s3:(0:Int)<=(at_:Int)+n:=sX;have s4:((at_:Int)+n).toNat=at_+n:=sX;have s5:IntKind.i64.wrap ((at_:Int)+n)=(at_:Int)+n:=Kd _ sX
        go_quiet ((first|(go_at_call 162;exact Kl (Y4v _ _ _ ah.out _))|(rw[Bb s1.out,Bb s2.out];exact⟨rfl,rfl⟩)))
        clear s1 s2 s3 s4 s5
        go_wp2
        go_roundw
        case rel=>exact⟨k+1,r,sX,tP,rfl,KF H _,Dm (by rw[ST.out];rfl),L⟩
        case measure=>simp[intOf];omega
     ·obtain rfl:k=l.length:=sX;have D:¬ d.take n∈rows:=by
       rw[<-A.out,Kk];rintro⟨x,P,z⟩;obtain⟨i,hi,rfl⟩:=Jh P;exact G.out i hi hi z
      have E:sm=rows.any (fun r=>(d.take n).isPrefixOf r):=by
       rw[t.out,Bh (by rw[<-A.out,Kh];exact B9 _)]
      have ab:=Dm (R.out.trans (Ba D));have ac:=Dm E;clear D E t R;cases sm with
      |false=>
       have F:=Dm (ab.out.trans (Ba (by rw[<-ac.out];decide)))
       exact Wcv
      |true=>
       have F:=Dm (ab.out.trans (Bb (by rw[<-ac.out])))
       go_wp2
       go_roundw
       case rel=>exact⟨n+1,sX,sX,tP,q,Dm (by rw[F.out,show 26-(n+1)=25-n by omega])⟩
       case measure=>simp[intOf];omega
  ·obtain rfl:n=26:=sX;have F:=Dm (hn.out.trans (show tk rows d (26-26) 26=(3,0) from rfl))
   exact Wcv
theorem Qiq (l:List ByteArray)(p:Option Aa)(cap:Nat)(s:ByteArray)(at_:Nat)(w:A5)(hc:DN w p l)(hm:l.length<=300)(hs:s.size<=1048576)(a:at_<=s.size):
  A9 prog 131 #[.slice p l.length cap,.string s,.int .i64 (at_:Int)] w (aD l (s.data.toList.drop at_) at_ w):=by
 refine(SB l p cap s at_ w hc hm hs a).mono ?_;rintro e b ⟨i,h1,h2,_,h3⟩;exact⟨i,h1,h2,h3⟩
end
end Go.Proofs.YtjjmalchelniiaaGreatDoor
