/- StripsWrites, 20. No condition. -/
import Derived.Test.YtjjmalchelniiaaGreatDoorStripsWritesMd
import Derived.Test.YtjjmalchelniiaaGreatDoorStripsWritesMe
import Derived.Test.YtjjmalchelniiaaGreatDoorStripsWritesMf
import Derived.Test.YtjjmalchelniiaaGreatDoorStripsWritesMq
import Derived.Test.YtjjmalchelniiaaGreatDoorStripsWritesMs
import Derived.BigQuiet
import Derived.Deep.AppendLies
open Go.Proofs.Tryz
open Go renaming Value->A0,World->A5
set_option maxHeartbeats 2000000
namespace Go.Proofs.YtjjmalchelniiaaGreatDoor
section
open Go.ChangeShapes Go.WideShapes Go.ChangeAt Go.RowKit
abbrev Km:=@decide_eq_false
abbrev Kn:=@decide_eq_true
abbrev Ko:=@List.mem_map_of_mem
abbrev Kp:=@IntWalk.i64_in
abbrev Kq:=@List.getElem_map
abbrev Kr:=@Addr.add_mid
abbrev Ks:=@List.mem_of_find?_eq_some
abbrev Kt:=@List.foldl_append
abbrev Ku:=@List.find?_eq_none
abbrev Kv:=@Bool.false_and
abbrev Kw:=@List.dropLast_eq_take
abbrev Kx:=@List.find?_some
abbrev Ky:=@List.getElem?_append_right
abbrev Kz:=@ntmps109
def GO (x:ByteArray×Int):List A0:=[.string x.1,.int .i64 x.2]
def AC (x:ByteArray×Int):List UInt8:=x.1.data.toList
theorem Yy (x:ByteArray×Int):∀v∈GO x,v.oneCell'=true:=by
 intro v hv;simp only[GO,Ei,Ej,Eo] at hv;rcases hv with rfl|rfl <;> rfl
theorem OK {B:Nat}{w x:A5}(h:Below B w x)(n:Nat):Below B w (x.drewN n):=⟨h.os,h.tape,h.output,h.size,h.block⟩
def Jx (w:A5)(p:Option Addr)(l:List ByteArray):Prop:=
 l=[]\/∃b o,p=some ⟨b,o,none⟩/\b<w.heap.size/\∀i,(h:i<l.length)->w.cell? ⟨b,o+i,none⟩=some (.string l[i])
theorem Jx.at {w:A5}{p:Option Addr}{l:List ByteArray}(h:Jx w p l)(a:0<l.length):
  ∃b o,p=some ⟨b,o,none⟩/\b<w.heap.size/\∀i,(h:i<l.length)->w.cell? ⟨b,o+i,none⟩=some (.string l[i]):=by
 rcases h with rfl|h
 ·cases a
 ·exact h
def FD (l:List ByteArray):List A0:=l.map .string
theorem Up (l:List ByteArray)(x:ByteArray):FD (l++[x])=FD l++[.string x]:=by simp[FD]
theorem nW {w:A5}{base e:Nat}{v:A0}{l:List ByteArray}(h:w.ownsRow base e 1 v l.length (FD l)):
  ∃(q:Option Addr) (cap:Nat),v=.slice q l.length cap/\Jx w q l:=by
 have a:=h;rcases h.2 with ⟨rfl,h1⟩|⟨g,cap,b,rfl,_,c,_⟩
 ·exact⟨none,0,by rw[h1],.inl (Dl h1)⟩
 ·refine⟨_,cap,rfl,.inr ⟨g,0,rfl,(Ed.1 c).1,fun i hi=>?_⟩⟩;have:=Dm (g:=g) a rfl i (.string l[i]) (by simp[FD,hi]);rwa [Kr] at this
theorem ZL {P:Program}{w:A5}{ops:Array Oper}{rest:List Oper}{o:Oper}{a:Act}{Q:Exit->Act->A5->Prop}{sl x:Operand}{t base e c:Nat}{i:TypeInfo}{z v:A0}{n:Nat}{l:List A0}{K:Nat}{y0:ByteArray}
  (m:o.guard=none)(ho:o.op=.call {callee:=.builtin .append,args:=#[sl,x],argTypes:=#[t,t]})
  (ht:P.underlying t=some (.slice e))(hi:P.info? e=some i)(s:i.zero=some z)(p:z.cells.size=1)(b:i.size=1)(q:i.bytes=16)
  (hs:a.eval sl=v)(f:w.ownsRow base e 1 v n l)(y:a.eval x=.slice (some ⟨K,0,none⟩) 1 c)(A:w.cell? ⟨K,0,none⟩=some (.string y0))(hn:n<=1048576)(d:base<=w.heap.size)
  (h:∀k g,g.ownsRow base e 1 k (n+1) (l++[.string y0])->w.grownBy g v.ownBlock->wpList P ops Q rest (a.put o.dst k) g):wpList P ops Q (o::rest) a w:=
 Do w m sl x t ho base e i z 1 16 ht hi s b q p (by decide) v n l hs f ⟨K,0,none⟩ 1 c [.string y0] y rfl
  (fun j u hj=>by
   match j,hj with
   |0,hj=>cases hj;exact A)
  (by intro u r;rw[Dk] at r;subst r;rfl) (by unfold maxLen;omega) (by omega) d
  fun k g h1 h2 _=>h k g h1 h2
theorem VY:(prog.info? 9).map (fun i=>(i.zero,i.size,i.bytes))=some (some (.string ⟨#[]⟩),1,16):=by kernel_rfl
theorem Rj {w:A5}{b:Nat}{l:List ByteArray}{T:TypeId}(h:w.heap[b]? =some (.cells (l.map Value.string).toArray T (0,0))):Jx w (some ⟨b,0,none⟩) l:=by
 refine .inr ⟨b,0,rfl,(Ed.1 h).1,fun i hi=>?_⟩;rw[Bo];exact AA h (by simp[hi])
end
section
def gtk (all:List (ByteArray×Int))(b:List UInt8):Int×Int×Nat:=
 if (tk (all.map AC) b 25 1).1=0 then
  match all.find? (fun x=>AC x==b.take (tk (all.map AC) b 25 1).2) with
  |some x=>(x.2,0,(tk (all.map AC) b 25 1).2)
  |none=>(0,0,0)
 else (0,(tk (all.map AC) b 25 1).1,0)
theorem gW {all:List (ByteArray×Int)}(b:CH (all.map AC)){x y:ByteArray×Int}(c:x∈all)(d:y∈all)(h:AC x=AC y):x=y:=by
 obtain⟨i,hi,rfl⟩:=Jv c;obtain⟨j,hj,rfl⟩:=Jv d;by_cases a:i=j
 ·subst a;rfl
 ·exfalso;have:=PF.1 b i j (by simpa using hi) (by simpa using hj) a;rw[Kq,Kq,h,JO] at this;cases this
theorem iC {all:List (ByteArray×Int)}(c:CH (all.map AC)){x:ByteArray×Int}(a:x∈all){q:List UInt8}(b:AC x=q):all.find? (fun y=>AC y==q)=some x:=by
 cases h:all.find? (fun y=>AC y==q) with
 |none=>
  have:=Ku.1 h x a;rw[b] at this;simp at this
 |some y=>
  have h1:=Kx h;have h2:=Ks h;rw[gW c h2 a (by rw[b];simpa using h1)]
theorem oX {all:List (ByteArray×Int)}(a:CH (all.map AC)){b:List UInt8}{n:Nat}{x:ByteArray×Int}(ht:tk (all.map AC) b 25 1=(0,n))(c:x∈all)(d:AC x=b.take n):gtk all b=(x.2,0,n):=by
 unfold gtk;rw[ht,Bc rfl,iC a c d]
theorem NK {all:List (ByteArray×Int)}{b:List UInt8}{n:Nat}{f:Int}(ht:tk (all.map AC) b 25 1=(f,n))(a:f≠0):gtk all b=(0,f,0):=by
 unfold gtk;rw[ht,Bb a]
theorem Qc {all:List (ByteArray×Int)}(a:CH (all.map AC)){b:List UInt8}{x:ByteArray×Int}(c:x∈all)(e:1<=(AC x).length)(h1:(AC x).length<=24)(d:(AC x).isPrefixOf b=true):gtk all b=(x.2,0,(AC x).length):=
 oX a (R4 a (Ko c) d e (by omega)) c (FJ.1 d).symm
theorem SM {rows:List (List UInt8)}{b:List UInt8}{k n:Nat}(h:b.length<n):tk rows b (k+1) n=(2,0):=by
 unfold tk;rw[Bc h]
theorem Vc {rows:List (List UInt8)}{b:List UInt8}{k n:Nat}(hn:n<=b.length)(h:∀r∈rows,(b.take n).isPrefixOf r=false):tk rows b (k+1) n=(3,0):=by
 unfold tk;rw[Bb (by omega),Bb (fun hm=>by have:=h _ hm;rw[JO] at this;cases this),Bb];rw[Jy];rintro⟨r,hr,a⟩;rw[h r hr] at a;cases a
theorem RG {rows:List (List UInt8)}{b:List UInt8}{k n:Nat}(hn:n<=b.length)(h:b.take n∉rows){r:List UInt8}(hr:r∈rows)(a:(b.take n).isPrefixOf r=true):tk rows b (k+1) n=tk rows b k (n+1):=by
 rw[tk,Bb (by omega),Bb h,Bc (Jy.2 ⟨r,hr,a⟩)]
theorem Qj2 {q r:List UInt8}(h:q.isPrefixOf r=true)(hl:q.length<r.length):q.isPrefixOf r.dropLast=true:=by
 rw[FJ] at h ⊢;rw[Kw,Cn,Bw (by omega)];exact h
theorem RT (c:Nat):∀(n l:Nat),n<=l->(AB c l).take n=AB (c / 2^(l-n)) n
 |0,_,_=>by simp[AB]
 |n+1,0,h=>by omega
 |n+1,l+1,h=>by
  rw[AB,Dt,RT c n l (by omega),AB,Nat.add_sub_add_right,Dz,<-Nat.pow_add,show l-n+n=l by omega]
theorem XP {q:List UInt8}(a:AL q=true){c l:Nat}(hc:c<2^l):q.isPrefixOf (AB c l)=(decide (q.length<=l)&&(c / 2^(l-q.length)==num q)):=by
 by_cases hl:q.length<=l
 ·rw[Jr,FJ,RT c _ _ hl,Kn hl,Jt,Bm];constructor
  ·intro h;have e:=C6 num h;rw[IF,Bp] at e
   ·exact e
   ·rw[Nat.div_lt_iff_lt_mul (Cf _),<-Nat.pow_add,show q.length+(l-q.length)=l by omega];exact hc
  ·intro h;rw[h];exact KR q a
 ·rw[Km hl,Kv];cases h:q.isPrefixOf (AB c l) with
  |false=>rfl
  |true=>
   have:=HT h;rw[BB] at this;exact absurd this hl
end
section
open Go.RowKit Go.Lib
def NJ (inter:Bool):List ByteArray:=
 if inter then [⟨#[49]⟩,⟨#[48,48,49,49]⟩,⟨#[48,48,49,48]⟩,⟨#[48,48,48,49,48,49]⟩,⟨#[48,49,49]⟩,⟨#[48,48,48,48,49,49,49]⟩,⟨#[48,48,48,48,49,49,48]⟩,⟨#[48,48,48,48,48,48,49,48,49]⟩,⟨#[48,49,48]⟩,⟨#[48,48,48,48,49,48,49]⟩,⟨#[48,48,48,48,49,48,48]⟩,⟨#[48,48,48,48,48,49,48,49]⟩,⟨#[48,48,48,49,49]⟩,⟨#[48,48,48,48,48,49,48,48]⟩,⟨#[48,48,48,48,48,48,49,49]⟩,⟨#[48,48,48,48,48,49,49]⟩,⟨#[48,48,48,49,48,48]⟩,⟨#[48,48,48,48,48,48,49,48,48]⟩,⟨#[48,48,48,48,48,48,48,49,49]⟩,⟨#[48,48,48,48,48,48,48,49,48]⟩,⟨#[48,48,48,48,48,48,48,48,49]⟩]
 else [⟨#[]⟩,⟨#[]⟩,⟨#[]⟩,⟨#[]⟩,⟨#[]⟩,⟨#[]⟩,⟨#[]⟩,⟨#[]⟩,⟨#[]⟩,⟨#[]⟩,⟨#[]⟩,⟨#[]⟩,⟨#[49]⟩,⟨#[48,48,49]⟩,⟨#[48,49,48]⟩,⟨#[48,49,49]⟩,⟨#[48,48,48,49]⟩,⟨#[48,48,48,48,48,49]⟩,⟨#[48,48,48,48,49,48]⟩,⟨#[48,48,48,48,49,49]⟩,⟨#[48,48,48,48,48,48,48,48,49]⟩]
theorem PB (inter:Bool):(NJ inter).length=21:=by cases inter <;> rfl
theorem Qj5 (inter:Bool)(k c:Nat)(b:k<6)(hc:c<4)(h:4*k+c<21):AY inter (k:Int) (c:Int)=(NJ inter)[4*k+c]'(by rw[PB];exact h):=by
 have a:∀k,k<6->∀c,c<4->4*k+c<21->(NJ inter)[4*k+c]? =some (AY inter ((k:Nat):Int) ((c:Nat):Int)):=by
  cases inter <;> decide +kernel
 have h1:=a k b c hc h;rw[Fj (by rw[PB];exact h)] at h1;exact(Fm h1).symm
theorem W0 {w:A5}{b:Nat}{l:List ByteArray}{T:TypeId}(h:w.heap[b]? =some (.cells (l.map Value.string).toArray T (0,0))):Jx w (some ⟨b,0,none⟩) l:=by
 refine .inr ⟨b,0,rfl,(Ed.1 h).1,fun i hi=>?_⟩;rw[Bo];exact AA h (by simp[hi])
theorem yI (inter:Bool)(w:A5):Calls prog 144 #[.bool inter] w fun e a=>e=.returned (.slice (some ⟨w.heap.size,0,none⟩) 21 21)/\Jx a (some ⟨w.heap.size,0,none⟩) (NJ inter)/\Below w.heap.size w a:=by
 cases inter with
 |true=>
  go_enter func144,ntmps144
  go_wp2
  go_ret
  exact⟨rfl,W0 (T:=9) (l:=NJ true) (heap_alloc_new w _),(Dq _ w).alloc (Ba _) _⟩
 |false=>
  go_enter func144,ntmps144
  go_wp2
  go_ret
  exact⟨rfl,W0 (T:=9) (l:=NJ false) (heap_alloc_new w _),(Dq _ w).alloc (Ba _) _⟩
theorem MJ {inter:Bool}{k c:Int}(h:k<0\/5<k\/c<0\/3<c\/(k=5/\0<c)):AY inter k c=⟨#[]⟩:=by
 by_cases hc:c<0\/4<=c
 ·exact TU hc
 ·unfold AY;rw[Bc (by omega)];rcases (by omega:c=0\/c=1\/c=2\/c=3) with rfl|rfl|rfl|rfl
  all_goals
   rcases (by omega:(k<0\/5<k)\/k=5) with b|rfl
   ·have a:∀i:Int,0<=i->i<=5->¬ k=i:=fun i h1 h2 e=>by omega
    cases inter <;> simp[NB,LH,L3,a 0,a 1,a 2,a 3,a 4,a 5]
   ·first
     |(exfalso;omega)
     |(cases inter <;> rfl)
set_option maxRecDepth 100000 in
theorem XC (inter:Bool)(k c:Int)(w:A5):Calls prog 109 #[.bool inter,.int .i64 k,.int .i64 c] w fun e q=>e=.returned (.string (AY inter k c))/\Below w.heap.size w q:=by
 by_cases f:k<0
 ·have F:=Dp (MJ (inter:=inter) (k:=k) (c:=c) (by have h:=f;exact .inl h));have t0:decide (k<0)=true:=by simpa using f
  clear f;rw[F.out]
  go_enter func109,Kz
  go_wp2
  go_ret
  exact⟨rfl,Dq _ _⟩
 by_cases g:5<k
 ·have F:=Dp (MJ (inter:=inter) (k:=k) (c:=c) (by have h:=g;exact .inr (.inl h)));have t0:decide (k<0)=false:=by simpa using f
  have t1:decide (5<k)=true:=by simpa using g
  clear f g;rw[F.out]
  go_enter func109,Kz
  go_wp2
  go_ret
  exact⟨rfl,Dq _ _⟩
 by_cases i:c<0
 ·have F:=Dp (MJ (inter:=inter) (k:=k) (c:=c) (by have h:=i;exact .inr (.inr (.inl h))));have t0:decide (k<0)=false:=by simpa using f
  have t1:decide (5<k)=false:=by simpa using g
  have t2:decide (c<0)=true:=by simpa using i
  clear f g i;rw[F.out]
  go_enter func109,Kz
  go_wp2
  go_ret
  exact⟨rfl,Dq _ _⟩
 by_cases l:3<c
 ·have F:=Dp (MJ (inter:=inter) (k:=k) (c:=c) (by have h:=l;exact .inr (.inr (.inr (.inl h)))));have t0:decide (k<0)=false:=by simpa using f
  have t1:decide (5<k)=false:=by simpa using g
  have t2:decide (c<0)=false:=by simpa using i
  have t3:decide (3<c)=true:=by simpa using l
  clear f g i l;rw[F.out]
  go_enter func109,Kz
  go_wp2
  go_ret
  exact⟨rfl,Dq _ _⟩
 have t0:decide (k<0)=false:=by simpa using f
 have t1:decide (5<k)=false:=by simpa using g
 have t2:decide (c<0)=false:=by simpa using i
 have t3:decide (3<c)=false:=by simpa using l
 by_cases m:k=5/\0<c
 ·have F:=Dp (MJ (inter:=inter) (k:=k) (c:=c) (.inr (.inr (.inr (.inr m)))));have t4:(k==5)=true:=by rw[Bm];exact m.1
  have t5:decide (0<c)=true:=by simpa using m.2
  clear f g i l m;rw[F.out]
  go_enter func109,Kz
  go_wp2
  go_ret
  exact⟨rfl,Dq _ _⟩
 obtain⟨a,rfl⟩:∃a:Nat,k=a:=⟨k.toNat,by omega⟩;obtain⟨d,rfl⟩:∃d:Nat,c=d:=⟨c.toNat,by omega⟩;have hi:4*a+d<21:=by omega
 have j:AY inter (a:Int) (d:Int)=(NJ inter)[4*a+d]'(by rw[PB];exact hi):=Qj5 inter a d (by omega) (by omega) hi;have t45:((a:Int)==5)=false\/(((a:Int)==5)=true/\decide (0<d)=false):=by
  by_cases e:(a:Int)=5
  ·exact .inr ⟨by rw[Bm];exact e,by simp;omega⟩
  ·exact .inl (by rw[Fg];exact e)
 have H:=Dp j;have s:4*a<=20:=by omega
 clear f g i l m j;rcases t45 with t4|⟨t4,t5⟩
 all_goals
  go_enter func109,Kz
  go_wp2_with fail
  refine(yI inter _).mono ?_;rintro e t ⟨rfl,n,r⟩;obtain⟨b,o,e,_,hc⟩:=n.at (by rw[PB];omega);cases e;have p:=hc (4*a+d) (by rw[PB];exact hi);rw[Bo] at p;rw[<-H.out] at p;clear hc
  go_wp2
  go_ret
  exact⟨rfl,r⟩
end
section
open Go.RowKit
theorem IU {a b:ByteArray}:a=b↔a.data.toList=b.data.toList:=by
 constructor
 ·rintro rfl;rfl
 ·intro h;obtain⟨⟨l⟩⟩:=a;obtain⟨⟨m⟩⟩:=b;cases h;rfl
end
section
open Go.RowKit Go.Lib
def KQ (l:List UInt8):List (List UInt8)×List UInt8:=l.foldl (fun p c=>if c=32 then (p.1++[p.2],[]) else (p.1,p.2++[c])) ([],[])
def Qt (l:List UInt8):List (List UInt8):=(KQ l).1++[(KQ l).2]
theorem fP (l:List UInt8)(c:UInt8):KQ (l++[c])=if c=32 then ((KQ l).1++[(KQ l).2],[]) else ((KQ l).1,(KQ l).2++[c]):=by
 unfold KQ;rw[Kt]
 rfl
def IB (l:List ByteArray):List (List UInt8):=l.map fun x=>x.data.toList
def oI (s:ByteArray)(w:A5)(e:Ending)(b:A5):Prop:=
 ∃(l:List ByteArray) (q:Option Addr) (cap:Nat),e=.returned (.slice q l.length cap)/\IB l=Qt s.data.toList/\Jx b q l/\l.length<=201/\(∀a,q=some a->w.heap.size<=a.block)/\Below w.heap.size w b
set_option maxRecDepth 100000 in
theorem Xj (s:ByteArray)(hs:s.size<=200)(w:A5):Calls prog 183 #[.string s] w (oI s w):=by
 obtain⟨i0,hi,x,z,A⟩:=Dv VY;obtain⟨B,C⟩:=Ah w.heap.size;have L:=Dp C;have m:Below B w (w.alloc (.cells #[.string ⟨#[]⟩] 9 (0,0))):=by rw[<-C];exact(Dq _ w).alloc (Ba _) _
 have o:(w.alloc (.cells #[.string ⟨#[]⟩] 9 (0,0))).ownsRow B 9 1 (.slice (some ⟨B,0,none⟩) 1 1) 1 (FD ([]++[⟨#[]⟩])):=C▸World.ownsRow_lit w #[.string ⟨#[]⟩] 1 (by omega) (by unfold maxLen;omega) rfl;have p:B<=(w.alloc (.cells #[.string ⟨#[]⟩] 9 (0,0))).heap.size:=by simp;omega
 go_enter func183,ntmps183
 go_wp2
 go_loopw [3,4] (fun u v wr=>∃(i:Nat) (l:List ByteArray) (y:ByteArray),i<=s.size/\v=.int .i64 i/\wr.ownsRow B 9 1 u (l.length+1) (FD (l++[y]))/\y.size<=i/\l.length<=i/\Hid (KQ (s.data.toList.take i)=(IB l,y.data.toList))/\Below B w wr/\B<=wr.heap.size) (fun _ v _=>s.size-(intOf v).toNat)
 case atStart=>exact⟨0,[],⟨#[]⟩,Ds _,rfl,o,Ds _,Ds _,Dp rfl,m,p⟩
 case round=>
  clear o m p;obtain⟨i,l,y,T,rfl,f,hy,hl,c,D,N⟩:=hrel;by_cases r:i<s.size
  ·obtain⟨g,cap,rfl,E,O⟩:=f.form (by omega);have b:KQ (s.data.toList.take (i+1))=if s[i]=32 then (IB l++[y.data.toList],[]) else (IB l,y.data.toList++[s[i]]):=by
    rw[Be r,fP,c.out]
    rfl
   have hcut:s.extract i (i+1)=⟨#[s[i]]⟩:=by
    apply IU.2;rw[Lib.extract_data];have h2:i<s.data.toList.length:=r;rw[Bv,Fo h2]
    rfl
   by_cases hc:s[i]=32
   ·rw[Bc hc] at b;have M:=Dp b;have U:((s[i].toNat:Int)==32)=true:=by rw[hc];rfl
    clear b c hc hcut
    go_wp2_with (at_builtin;refine ZL (y0:=⟨#[]⟩) rfl rfl underlying163 hi x rfl z A rfl (f.alloc _) rfl ?d1 ?d2 ?d3 ?_;(case d1=>go_cell);(case d2=>omega);(case d3=>(simp;omega));intro v2 P G d;have t:World.grownBy _ P (some g):=d;have H:=(D.alloc N _).grown t (by simp;omega) (fun k Q=>by injection Q with Q;omega);have I:B<=P.heap.size:=Eg (by simp;omega) t.size;clear d)
    go_roundw
    case rel=>exact⟨i+1,l++[y],⟨#[]⟩,by omega,by go_num,by rw[Up,B9];exact G,Ds _,by rw[B9];simp;omega,Dp (by rw[M.out];simp[IB]),H,I⟩
    case measure=>simp[intOf];omega
   ·rw[Bb hc] at b;have M:=Dp b;have U:((s[i].toNat:Int)==32)=false:=by
     rw[Fg];intro e;exact hc (Jz.1 (by show s[i].toNat=32;omega))
    have V:wr.cell? ⟨g,l.length,none⟩=some (.string y):=by
     rw[f.cellAt l.length (by omega),Up,Ky (by simp[FD])];simp[FD]
    have f0:=f.frozenAt l.length;have ST:=Dp (fun u=>f.stored l.length u);have W:=Dp hcut;have s1:=Dp (show (i:Int)<=(i:Int)+1 by omega);have R:=Dp (show (FD (l++[y])).set l.length (.string (y++⟨#[s[i]]⟩))=FD (l++[y++⟨#[s[i]]⟩]) by simp[FD]);obtain⟨n,hn⟩:=Ah l.length;rw[hn] at V f0 ST R hl;rw[hn];have S:=Dp hn
    have X:IntKind.i64.wrap (n:Int)=(n:Int):=Kp _ (by omega);have Y:IntKind.i64.wrap ((i:Int)+1)=(i:Int)+1:=Kp _ (by omega);clear b c hc hcut f hn
    go_wp2
    go_region
    go_wp2
    go_roundw
    case rel=>
     rw[W.out];obtain⟨h1,h2⟩:=ST.out (.string (y++⟨#[s[i]]⟩));rw[R.out] at h1;exact⟨i+1,l,y++⟨#[s[i]]⟩,by omega,by go_num,by rw[S.out];exact h1.drew,by have e1:(⟨#[s[i]]⟩:ByteArray).size=1:=rfl;rw[ByteArray.size_append];omega,by rw[S.out];omega,Dp (by rw[M.out];simp),(D.setCell E _).drew,Eg N h2.size⟩
    case measure=>simp[intOf];omega
  ·obtain rfl:i=s.size:=by omega
   have F:=Dp (show IB (l++[y])=Qt s.data.toList by
    have:=c.out;rw[show s.data.toList.take s.size=s.data.toList from Bk (Ba _)] at this;unfold Qt;rw[this];simp[IB])
   have j:wr.ownsRow B 9 1 u3 (l++[y]).length (FD (l++[y])):=by rw[B9];exact f
   obtain⟨q,cap,rfl,J⟩:=nW j;have Z:=Dp (show∀a,q=some a->w.heap.size<=a.block from fun a h=>by subst h;rw[L.out];exact NS j a.block rfl);have K:=Dp (show (l++[y]).length<=201 by rw[B9];simp;omega);clear f j c
   go_wp2
   go_ret
   exact⟨l++[y],q,cap,rfl,F.out,J,K.out,Z.out,by rw[L.out];exact D⟩
end
end Go.Proofs.YtjjmalchelniiaaGreatDoor
