/- StripsChecks, 50. No condition. -/
import Derived.Test.YtjjmalchelniiaaGreatDoorStripsChecksMa
import Derived.Test.YtjjmalchelniiaaGreatDoorStripsChecksMj
import Derived.Test.YtjjmalchelniiaaGreatDoorStripsChecksMq
import Derived.Test.YtjjmalchelniiaaGreatDoorStripsChecksMz
open Go.Proofs.Tryz
open Go renaming World->A5,Value->A0
set_option maxHeartbeats 8000000
namespace Go.Proofs.YtjjmalchelniiaaGreatDoor
open Go.RowKit Go.Lib
abbrev Of:=@wpList_load_row
abbrev Og:=@underlying39
abbrev Oh:=@AllReadyH.cons
abbrev Oi:=@AllReadyH.nil
abbrev Oj:=@wpAnyH_ready
abbrev Ol:=@wp_region_held_drew
abbrev Om:=@wpAnyH_done
abbrev On:=@AllReady.cons
abbrev Oo:=@wp_store_row
abbrev Oq:=@AllReady.nil
abbrev Ot:=@wpAny_ready
def eS (l:List UInt8)(p n:Nat):Int:=if CT l p≠0 then CT l p else upS l (p+22) n
theorem Sk {l:List UInt8}{p n:Nat}:eS l p n=0↔CT l p=0/\upS l (p+22) n=0:=by
 unfold eS;by_cases h:CT l p=0
 ·rw[Bb (fun k=>k h)];exact⟨fun k=>⟨h,k⟩,fun k=>k.2⟩
 ·rw[Bc h];exact⟨fun k=>absurd k h,fun k=>absurd k.1 h⟩
theorem XZ (l:List UInt8)(p:Nat):CT l p=eS l p 0:=by
 unfold eS
 split
 ·rfl
 ·show _=(0:Int);omega
theorem Um {l:List UInt8}{p n:Nat}(h:eS l p n=0):eS l p (n+1)=Pm l (p+22) n:=by
 obtain⟨h1,h2⟩:=Sk.1 h;unfold eS;rw[Bb (fun k=>k h1),TR h2]
theorem yF {l:List UInt8}{p n:Nat}(h:eS l p n≠0):eS l p (n+1)=eS l p n:=by
 unfold eS at *
 split
 ·rfl
 ·rename_i h1
  rw[Bb h1] at h;exact Yq h
structure Y0e (l:List UInt8) (p n:Nat) (e V E:Int) (Q:Nat):Prop where
 ok:E=0->e=0/\V=((C5 l (p+22) n:Nat):Int)/\Q=p+22+CB (n+1)/\eS l p (n+1)=DM n (C5 l (p+22) n)
 bad:E≠0->E=eS l p (n+1)
theorem LU {l:List UInt8}{p n q:Nat}{e:Int}(b:eS l p n=e)(c:e=0->q=p+22+CB n)(d:Int)(hd:d=((EP n:Nat):Int))(hn:EP n<=32):
  Y0e l p n e (F7 l e q d) (F6 l e q d) (F8 l e q d):=by
 unfold F7 F6 F8;by_cases a:e=0
 ·rw[Bc a,Bc a,Bc a];have c:=c a;subst hd c;by_cases hs:8*l.length<p+22+CB n+EP n
  ·rw[show C1 l (p+22+CB n) ((EP n:Nat):Int)=p+22+CB n by unfold C1;rw[FG (by omega) (by omega)];rfl,FG (by omega) (by omega)];exact⟨fun h=>absurd h (by decide),fun _=>by rw[Um (b.trans a),VC hs]⟩
  ·rw[show C1 l (p+22+CB n) ((EP n:Nat):Int)=p+22+CB n+EP n by unfold C1;rw[E7 (by omega) (by omega)];rfl,E7 (by omega) (by omega)];exact⟨fun _=>⟨a,rfl,by show _=p+22+(CB n+EP n);omega,by rw[Um (b.trans a),TI (by omega)]⟩,fun h=>absurd rfl h⟩
 ·rw[Bb a,Bb a,Bb a];exact⟨fun h=>absurd h a,fun _=>by rw[yF (by rw[b];exact a),b]⟩
theorem Y0e.test {l:List UInt8}{p n:Nat}{e V E:Int}{Q:Nat}(h:Y0e l p n e V E Q)(a:Bool)(b:Int)
  (d:V=((C5 l (p+22) n:Nat):Int)->DM n (C5 l (p+22) n)=if a=true then 0 else b):IQ E a b=eS l p (n+1):=by
 unfold IQ;by_cases c:E=0
 ·obtain⟨-,h1,-,h2⟩:=h.ok c;rw[h2,d h1];cases a with
  |true=>rw[Bb (by simp),Bc rfl,c]
  |false=>rw[Bc ⟨c,rfl⟩,Bb (by decide)]
 ·rw[Bb (by omega)];exact h.bad c
theorem Y0e.free {l:List UInt8}{p n:Nat}{e V E:Int}{Q:Nat}(h:Y0e l p n e V E Q)(b:DM n (C5 l (p+22) n)=0):E=eS l p (n+1):=by
 by_cases a:E=0
 ·obtain⟨-,-,-,h2⟩:=h.ok a;rw[h2,b,a]
 ·exact h.bad a
theorem Y0e.done {l:List UInt8}{p n:Nat}{e V E:Int}{Q:Nat}(h:Y0e l p n e V E Q)(a:eS l p (n+1)=0):e=0/\V=((C5 l (p+22) n:Nat):Int)/\Q=p+22+CB (n+1):=by
 have h1:E=0:=by
  by_cases h1:E=0
  ·exact h1
  ·exact absurd ((h.bad h1).trans a) h1
 exact⟨(h.ok h1).1,(h.ok h1).2.1,(h.ok h1).2.2.1⟩
theorem Rm {n v:Nat}(h:n=0\/n=2\/n=4):DM n v=0:=by
 unfold DM;rw[Bb (by omega),Bb (by omega),Bb (by omega)]
theorem tB (v:Nat)(V:Int)(h:V=(v:Int)):DM 1 v=if (V==2)=true then 0 else 5:=by
 subst h;unfold DM;by_cases hv:v=2
 ·rw[Bb (by omega),Bb (by omega),Bb (by omega),Bc (by rw[hv];rfl)]
 ·rw[Bc (by omega),Bb (by simp;omega)]
theorem pR (v:Nat)(V:Int)(h:V=(v:Int)):DM 3 v=if DG V=true then 0 else 5:=by
 subst h;unfold DM;cases hv:DG (v:Int) with
 |false=>rw[Bc (by simp),Bb (by decide)]
 |true=>rw[Bb (by simp),Bb (by omega),Bb (by omega),Bc rfl]
theorem Wh {n:Nat}(hn:n=5\/n=7)(v:Nat)(V:Int)(h:V=(v:Int)):DM n v=if (V==0)=true then 0 else 6:=by
 subst h;unfold DM;by_cases hv:v=0
 ·rw[Bb (by omega),Bb (by omega),Bb (by omega),Bc (by rw[hv];rfl)]
 ·rw[Bb (by omega),Bc (by omega),Bb (by simp;omega)]
theorem vT (v:Nat)(V:Int)(h:V=(v:Int)):DM 6 v=if decide (1<=V)=true then 0 else 9:=by
 subst h;unfold DM;by_cases hv:v=0
 ·rw[Bb (by omega),Bb (by omega),Bc ⟨rfl,hv⟩,Bb (by simp;omega)]
 ·rw[Bb (by omega),Bb (by omega),Bb (by omega),Bc (by simp;omega)]
def Lf (l:List UInt8)(p:Nat)(e:Int)(q:Nat)(L:List Int):Prop:=
 (e≠0/\(shk l p).2.2=e)\/(e=0/\L.length<=8/\eS l p 8=0/\BV l 8 (p+49)=(L++(BV l (8-L.length) q).1,(BV l (8-L.length) q).2))
def yC (l:List UInt8)(p:Nat)(e:Int)(q:Nat)(L:List Int):Prop:=
 (shk l p).2.2=e/\(e=0->eS l p 8=0/\shk l p=(KH l (p+22) L,q,0))
theorem Lf.start {l:List UInt8}{p q:Nat}{e:Int}(a:eS l p 8=e)(c:e=0->q=p+49):Lf l p e q []:=by
 by_cases b:e=0
 ·right
  rw[c b];exact⟨b,Dn _,a.trans b,rfl⟩
 ·left
  refine⟨b,?_⟩;unfold eS at a;by_cases hm:CT l p=0
  ·rw[Bb (fun k=>k hm)] at a;rw[TD hm (by rw[a];exact b),a]
  ·rw[Bc hm] at a;rw[Qa hm,a]
theorem SJ {l:List UInt8}{p:Nat}(b:eS l p 8=0){f:Int}(a:(BV l 8 (p+49)).2.2=f)(c:f≠0):(shk l p).2.2=f:=by
 obtain⟨h1,h2⟩:=Sk.1 b;rw[T5 h1 h2 (by rw[a];exact c),a]
theorem Lf.bit {l:List UInt8}{p q:Nat}{e:Int}{L:List Int}(h:Lf l p e q L):
  (F7 l e q 1≠1->yC l p (F6 l e q 1) (F8 l e q 1) L)/\(F7 l e q 1=1->e=0/\F6 l e q 1=0/\F8 l e q 1=q+1/\q+1<=8*l.length/\AD l q 1≠0):=by
 unfold F7 F6 F8;rcases h with ⟨a,d⟩|⟨a,m,b,hs⟩
 ·rw[Bb a,Bb a,Bb a];exact⟨fun _=>⟨d,fun k=>absurd k a⟩,fun k=>absurd k (by decide)⟩
 ·rw[Bc a,Bc a,Bc a];by_cases c:8*l.length<q+1
  ·rw[show C1 l q 1=q by unfold C1;rw[FG (by omega) (by omega)];rfl,FG (by omega) (by omega)];refine⟨fun _=>⟨?_,fun k=>absurd k (by decide)⟩,fun k=>absurd k (by decide)⟩;rw[Vi c] at hs;exact SJ b (by rw[hs]) (by decide)
  ·have ht:C1 l q 1=q+1:=by unfold C1;rw[E7 (by omega) (by omega)];rfl
   have f:ask l q 1=(((AD l q 1:Nat):Int),0):=E7 (by omega) (by omega);rw[ht,f];have g:=EA l q 1;by_cases h1:AD l q 1=0
   ·refine⟨fun _=>?_,fun k=>absurd k (by simp only[h1];decide)⟩;rw[T4 (by omega) h1] at hs;obtain⟨i,j⟩:=Sk.1 b;have e:shk l p=(KH l (p+22) (BV l 8 (p+49)).1,(BV l 8 (p+49)).2.1,0):=QF i j (by rw[hs]);rw[hs,Ew] at e;exact⟨by rw[e],fun _=>⟨b,e⟩⟩
   ·refine⟨fun k=>absurd ?_ k,fun _=>⟨a,rfl,rfl,by omega,h1⟩⟩;show ((AD l q 1:Nat):Int)=1;omega
theorem Lf.byte {l:List UInt8}{p q:Nat}{L:List Int}(h:Lf l p 0 q L)(a:q+1<=8*l.length)(h1:AD l q 1≠0):
  L.length<=8/\Lf l p (F6 l (IQ 0 (decide ((L.length:Int)<8)) 13) (q+1) 8) (F8 l (IQ 0 (decide ((L.length:Int)<8)) 13) (q+1) 8) (L++[F7 l (IQ 0 (decide ((L.length:Int)<8)) 13) (q+1) 8]):=by
 rcases h with ⟨g,_⟩|⟨_,i,c,hs⟩
 ·exact absurd rfl g
 refine⟨i,?_⟩;by_cases b:L.length=8
 ·have d:IQ 0 (decide ((L.length:Int)<8)) 13=13:=by unfold IQ;rw[Bc ⟨rfl,Gp (by omega)⟩]
  rw[d];unfold F7 F6 F8;rw[Bb (by decide),Bb (by decide),Bb (by decide)]
  left
  refine⟨by decide,?_⟩;rw[b,Cl,X3 a h1] at hs;exact SJ c (by rw[hs]) (by decide)
 ·have d:IQ 0 (decide ((L.length:Int)<8)) 13=0:=by unfold IQ;rw[Bb (fun k=>by have:=k.2;rw[Gq (by omega)] at this;cases this)]
  rw[d];unfold F7 F6 F8;rw[Bc rfl,Bc rfl,Bc rfl];obtain⟨k,j⟩:∃k,8-L.length=k+1:=⟨7-L.length,by omega⟩;rw[j] at hs;by_cases e:8*l.length<q+1+8
  ·rw[show C1 l (q+1) 8=q+1 by unfold C1;rw[FG (by omega) (by omega)];rfl,FG (by omega) (by omega)]
   left
   refine⟨by decide,?_⟩;rw[Ya a h1 e] at hs;exact SJ c (by rw[hs]) (by decide)
  ·rw[show C1 l (q+1) 8=q+9 by unfold C1;rw[E7 (by omega) (by omega)];rfl,E7 (by omega) (by omega)]
   right
   rw[Rr h1 (by omega)] at hs;refine⟨rfl,by rw[B9];show L.length+1<=8;omega,c,?_⟩;have f:8-(L++[(((AD l (q+1) (Int.toNat 8):Nat):Int),(0:Int)).1]).length=k:=by rw[B9];show 8-(L.length+1)=k;omega
   rw[f,hs];simp
structure PwS (w0:A5) (A X S b:Nat) (s:ByteArray) (w:A5) (e:Int) (q:Nat) (Z:List A0):Prop where
 cap:Cap w X A b s e q
 sh:w.heap[S]? =some (.cells Z.toArray 39 (0,0))
 res:w.heap[A+1]? =some (.cells (AQ FB (.slice none 0 0) (.slice none 0 0) 0).toArray 39 (0,0))
 low:w0.grownBy w (some b)
 sep:w0.heap.size=A/\b<A/\A+1<X/\X<S/\S<w.heap.size
theorem PwS.move {w0 w a:A5}{A X S b:Nat}{s:ByteArray}{e c:Int}{q q':Nat}{Z:List A0}(h:PwS w0 A X S b s w e q Z)(hc:Cap a X A b s c q')(hm:Ybu X b w a):PwS w0 A X S b s a c q' Z:=by
 obtain⟨i,j,l,m,d⟩:=h.sep;exact⟨hc,(hm.block S d (by omega) (by omega)).trans h.sh,(hm.block (A+1) (by omega) (by omega) (by omega)).trans h.res,
  ⟨hm.os.trans h.low.os,hm.tape.trans h.low.tape,hm.output.trans h.low.output,Ea h.low.size hm.size,fun k f g=>(hm.block k (Bg f h.low.size) (by omega) (by simpa using g)).trans (h.low.block k f g)⟩,
  i,j,l,m,Bg d hm.size⟩
theorem PwS.set {w0 w:A5}{A X S b:Nat}{s:ByteArray}{e:Int}{q:Nat}{Z:List A0}(h:PwS w0 A X S b s w e q Z)(i:Nat)(v:A0):PwS w0 A X S b s (w.setCell ⟨S,i,none⟩ v) e q (Z.set i v):=by
 obtain⟨d,f,g,j,l⟩:=h.sep;have a:=DC w ⟨S,i,none⟩ v;exact⟨h.cap.set _ _ ⟨show S≠X by omega,show S≠A by omega,show S≠b by omega⟩,B3 v h.sh,(a.block (A+1) (by omega) (by show some (A+1)≠some S;intro e;injection e with e;omega)).trans h.res,
  ⟨h.low.os,h.low.tape,h.low.output,Ea h.low.size a.size,fun k c m=>(a.block k (Bg c h.low.size) (by show some k≠some S;intro e;injection e with e;omega)).trans (h.low.block k c m)⟩,
  d,f,g,j,Bg l a.size⟩
theorem PwS.grown {w0 w d:A5}{A X S b:Nat}{s:ByteArray}{e:Int}{q:Nat}{Z:List A0}{row:Option Nat}(h:PwS w0 A X S b s w e q Z)(c:w.grownBy d row)(hr:∀g,row=some g->S<g):PwS w0 A X S b s d e q Z:=by
 obtain⟨i,j,l,m,n⟩:=h.sep;have a:∀k,k<=S->d.heap[k]? =w.heap[k]?:=fun k a=>c.block k (by omega) (fun e=>by have:=hr k e.symm;omega);exact⟨⟨(a X (by omega)).trans h.cap.wrong,(a A (by omega)).trans h.cap.box,⟨(a b (by omega)).trans h.cap.rd.1,h.cap.rd.2⟩,h.cap.apart⟩,(a S (by omega)).trans h.sh,(a (A+1) (by omega)).trans h.res,
  ⟨c.os.trans h.low.os,c.tape.trans h.low.tape,c.output.trans h.low.output,Ea h.low.size c.size,fun k f o=>(a k (by omega)).trans (h.low.block k f o)⟩,
  i,j,l,m,Bg n c.size⟩
theorem PwS.drew {w0 w:A5}{A X S b:Nat}{s:ByteArray}{e:Int}{q:Nat}{Z:List A0}(h:PwS w0 A X S b s w e q Z):PwS w0 A X S b s w.drew e q Z:=h.grown (JX w none) (fun g h=>by cases h)
theorem PwS.at {w0 w:A5}{A X S b:Nat}{s:ByteArray}{e:Int}{q:Nat}{Z:List A0}(h:PwS w0 A X S b s w e q Z){i:Nat}{v:A0}(hv:Z[i]? =some v):w.cell? ⟨S,i,none⟩=some v:=A2 h.sh hv
theorem PwS.free {w0 w:A5}{A X S b:Nat}{s:ByteArray}{e:Int}{q:Nat}{Z:List A0}(h:PwS w0 A X S b s w e q Z)(i:Nat):w.frozen? ⟨S,i,none⟩=false:=AW h.sh
theorem Ra {w i:A5}{base e size n a b:Nat}{v:A0}{j:List A0}(h:w.ownsRow base e size v n j)(hm:Ybu a b w i)(k:a<base)(l:b<base):i.ownsRow base e size v n j:=by
 refine⟨h.1,?_⟩;rcases h.2 with hn|⟨g,cap,d,rfl,f,c,rest⟩
 ·exact .inl hn
 ·refine .inr ⟨g,cap,d,rfl,f,?_,rest⟩;rw[hm.block g (An.1 c).1 (by omega) (by omega)];exact c
def oV (l:List UInt8)(s:ByteArray)(p b:Nat)(w:A5)(e:Ending)(c:A5):Prop:=
 ∃(h:Shd) (a:Option Addr) (cap q:Nat),e=.returned (.tuple #[.agg (AQ h (.slice a h.supp.length cap) (.slice none 0 0) 0).toArray,.int .i64 (shk l p).2.2])/\
  ((shk l p).2.2=0->shk l p=(h,q,0))/\BH c a h.supp/\(∀x,a=some x->w.heap.size<=x.block)/\AG c b s q/\w.grownBy c (some b)
set_option maxRecDepth 100000 in
theorem fU (w:A5)(b:Nat)(s:ByteArray)(p:Nat)(hr:AG w b s p)(hs:s.size<=1099511627776):
  Calls prog 156 #[.pointer (some ⟨b,0,none⟩)] w (oV s.data.toList s p b w):=by
 have dg:∀(fn:Fn) (first cap:Array A0) (w:A5),(Instr.makeFunc fn first cap).run prog w=.ok (.func fn first cap) w:=fun _ _ _ _=>rfl;have c:=fun w hr=>gF w b s p hr hs;have ao:b<w.heap.size:=hr.lt;obtain⟨A,V⟩:=Ai w.heap.size;obtain⟨l,hl⟩:=Ai s.data.toList;have W:eS l p 0=0->NY l p=p+22+CB 0:=fun h=>by unfold NY;rw[Bc ((XZ l p).trans h)];rfl
 rw[hl] at c ⊢;rw[XZ] at c;obtain⟨Y,aa⟩:=Ai (eS l p 0);obtain⟨q0,ap⟩:=Ai (NY l p);rw[aa,ap] at c W;have cv:=Dl aa;have cw:=Dl W;have I:=Dl hl;clear aa W ap;obtain⟨wA,z⟩:=Ai ((w.alloc (.cells #[.pointer (some ⟨b,0,none⟩)] 54 (0,0))).alloc (.cells (AQ FB (.slice none 0 0) (.slice none 0 0) 0).toArray 39 (0,0)))
 have E:Below A w wA:=by rw[<-z,<-V];exact((Dm _ w).alloc (Ba _) _).alloc (by simp) _
 have bk:wA.heap.size=A+2:=by rw[<-z,<-V];simp
 have aq:wA.heap[A]? =some (.cells [.pointer (some ⟨b,0,none⟩)].toArray 54 (0,0)):=by rw[<-z,<-V];exact CH (heap_alloc_new w _)
 have ar:wA.heap[A+1]? =some (.cells (AQ FB (.slice none 0 0) (.slice none 0 0) 0).toArray 39 (0,0)):=by
  rw[<-z,<-V];have:=heap_alloc_new (w.alloc (.cells #[.pointer (some ⟨b,0,none⟩)] 54 (0,0))) (.cells (AQ FB (.slice none 0 0) (.slice none 0 0) 0).toArray 39 (0,0))
  simpa using this
 have au:AG wA b s p:=hr.below (V▸E);unfold AQ FB at z;have av:=Dl z;have cx:=Dl V;clear z hl hr;rw[V] at ao
 go_enter func156,ntmps156
 go_wp2_with fail
 rw[av.out];refine(c _ au).mono ?_;rintro e w1 ⟨rfl,ab,F⟩;have aw:=(F.block A (by omega) (by intro e;injection e with e;omega)).trans aq;have ax:=(F.block (A+1) (by omega) (by intro e;injection e with e;omega)).trans ar;obtain⟨X,hX⟩:=Ai w1.heap.size;have bl:A+1<X:=by have:=F.size;omega
 obtain⟨y0,B⟩:=Ai ((w1.alloc (.cells #[.int .i64 Y] 27 (0,0))).alloc (.cells (AQ FB (.slice none 0 0) (.slice none 0 0) 0).toArray 39 (0,0)));have G:Below X w1 y0:=by rw[<-B,<-hX];exact((Dm _ w1).alloc (Ba _) _).alloc (by simp) _
 have bm:PwS w A X (X+1) b s y0 Y q0 (AQ FB (.slice none 0 0) (.slice none 0 0) 0):=by
  refine⟨⟨by rw[<-B,<-hX];exact CH (heap_alloc_new w1 _),(G.block A (by omega)).trans aw,⟨(G.block b (by omega)).trans ab.1,ab.2⟩,by omega,by omega,by omega⟩,?_,(G.block (A+1) (by omega)).trans ax,?_,cx.out,ao,bl,by omega,by rw[<-B];simp;omega⟩
  ·rw[<-B,<-hX];have:=heap_alloc_new (w1.alloc (.cells #[.int .i64 Y] 27 (0,0))) (.cells (AQ FB (.slice none 0 0) (.slice none 0 0) 0).toArray 39 (0,0))
   simpa using this
  ·exact AO (AO (BR (cx.out▸E) _) F) (BR (hX▸G) _)
 unfold AQ FB at B;have dh:=Dl hX;have ay:=Dl B;clear B G aw ax ab F aq ar E bk au c av hX
 go_wp2_with fail
 rw[dh.out,ay.out];refine(JV _ X A b s Y q0 8 bm.cap).mono ?_;rintro r0 z0 ⟨rfl,hc,hm⟩;rw[I.out] at hc ⊢;have bn:=LU cv.out cw.out 8 rfl (by decide);generalize F7 l Y q0 8=v0 at *;generalize F6 l Y q0 8=f0 at *;generalize F8 l Y q0 8=q1 at *;have J:=bm.move hc hm;clear hc hm bm;have t:=J.at (i:=0) rfl;have y:=J.free 0;have az:=J.set 0 (.int .i64 v0)
 obtain⟨e1,d⟩:=Ai (eS l p 1);have f:=(bn.free (Rm (by omega))).symm;rw[d] at f;subst f;have ac:=Dl d;have bo:=Dl fun h=>bn.done (d.trans h);have bf:=Dl fun h=>(bo.out h).2.2;have bp:=az;clear d;clear bn cv cw J az
 go_wp2_with fail
 try clear t y
 refine(JV _ X A b s e1 q1 2 bp.cap).mono ?_;rintro r1 z1 ⟨rfl,hc,hm⟩;rw[I.out] at hc ⊢;have bq:=LU ac.out bf.out 2 rfl (by decide);generalize F7 l e1 q1 2=v1 at *;generalize F6 l e1 q1 2=f1 at *;generalize F8 l e1 q1 2=q2 at *;have ae:=bp.move hc hm;clear hc hm bp
 go_wp2_with fail
 try clear t y
 refine(Oy _ X A b s f1 q2 (v1==2) 5 ae.cap).mono ?_;rintro r1 u1 ⟨rfl,hc,hm⟩;rw[bq.test (v1==2) 5 (tB _ _)] at hc;obtain⟨e2,d⟩:=Ai (eS l p 2);rw[d] at hc;have af:=Dl d;have br:=Dl fun h=>bq.done (d.trans h);have cy:=Dl fun h=>(br.out h).2.2;have bs:=ae.move hc hm;clear d hc hm ae bq ac bf
 go_wp2_with fail
 try clear t y
 refine(JV _ X A b s e2 q2 3 bs.cap).mono ?_;rintro r2 z2 ⟨rfl,hc,hm⟩;rw[I.out] at hc ⊢;have bt:=LU af.out cy.out 3 rfl (by decide);generalize F7 l e2 q2 3=v2 at *;generalize F6 l e2 q2 3=f2 at *;generalize F8 l e2 q2 3=q3 at *;have M:=bs.move hc hm;clear hc hm bs;have t:=M.at (i:=1) rfl;have y:=M.free 1;have a0:=M.set 1 (.int .i64 v2);obtain⟨e3,d⟩:=Ai (eS l p 3)
 have f:=(bt.free (Rm (by omega))).symm;rw[d] at f;subst f;have bg:=Dl d;have bu:=Dl fun h=>bt.done (d.trans h);have bh:=Dl fun h=>(bu.out h).2.2;have bv:=a0;clear d;clear bt af cy M a0
 go_wp2_with fail
 try clear t y
 refine(JV _ X A b s e3 q3 3 bv.cap).mono ?_;rintro r3 z3 ⟨rfl,hc,hm⟩;rw[I.out] at hc ⊢;have bw:=LU bg.out bh.out 3 rfl (by decide);generalize F7 l e3 q3 3=N at *;generalize F6 l e3 q3 3=f3 at *;generalize F8 l e3 q3 3=q4 at *;have O:=bv.move hc hm;clear hc hm bv;have t:=O.at (i:=2) rfl;have y:=O.free 2;have ag:=O.set 2 (.int .i64 N)
 go_wp2_with fail
 try clear t y
 refine(Zo N _).mono ?_;rintro r u ⟨rfl,rfl⟩
 go_wp2_with fail
 refine(Oy _ X A b s f3 q4 (DG N) 5 ag.cap).mono ?_;rintro r3 u3 ⟨rfl,hc,hm⟩;rw[bw.test (DG N) 5 (pR _ _)] at hc;obtain⟨e4,d⟩:=Ai (eS l p 4);rw[d] at hc;have cz:=Dl d;have bx:=Dl fun h=>bw.done (d.trans h);have c1:=Dl fun h=>(bx.out h).2.2;have bz:=ag.move hc hm;clear d hc hm ag O bw bg bh
 go_wp2_with fail
 try clear t y
 refine(JV _ X A b s e4 q4 1 bz.cap).mono ?_;rintro r4 z4 ⟨rfl,hc,hm⟩;rw[I.out] at hc ⊢;have b0:=LU cz.out c1.out 1 rfl (by decide);generalize F7 l e4 q4 1=v4 at *;generalize F6 l e4 q4 1=f4 at *;generalize F8 l e4 q4 1=q5 at *;have P:=bz.move hc hm;clear hc hm bz;have t:=P.at (i:=3) rfl;have y:=P.free 3;have a1:=P.set 3 (.bool (v4==1))
 go_wp2_with fail
 refine(UC true _).mono ?_;rintro r u ⟨rfl,rfl⟩;rw[Bc rfl];obtain⟨e5,d⟩:=Ai (eS l p 5);have f:=(b0.free (Rm (by omega))).symm;rw[d] at f;subst f;have c2:=Dl d;have b1:=Dl fun h=>b0.done (d.trans h);have c3:=Dl fun h=>(b1.out h).2.2;have b2:=a1;clear d;clear b0 cz c1 P a1
 go_wp2_with fail
 try clear t y
 refine(JV _ X A b s e5 q5 4 b2.cap).mono ?_;rintro r5 z5 ⟨rfl,hc,hm⟩;rw[I.out] at hc ⊢;have b3:=LU c2.out c3.out 4 rfl (by decide);generalize F7 l e5 q5 4=v5 at *;generalize F6 l e5 q5 4=f5 at *;generalize F8 l e5 q5 4=q6 at *;have ah:=b2.move hc hm;clear hc hm b2
 go_wp2_with fail
 try clear t y
 refine(Oy _ X A b s f5 q6 (v5==0) 6 ah.cap).mono ?_;rintro r5 u5 ⟨rfl,hc,hm⟩;rw[b3.test (v5==0) 6 (Wh (.inl rfl) _ _)] at hc;obtain⟨e6,d⟩:=Ai (eS l p 6);rw[d] at hc;have c4:=Dl d;have b5:=Dl fun h=>b3.done (d.trans h);have c5:=Dl fun h=>(b5.out h).2.2;have b6:=ah.move hc hm;clear d hc hm ah b3 c2 c3
 go_wp2_with fail
 try clear t y
 refine(JV _ X A b s e6 q6 5 b6.cap).mono ?_;rintro r6 z6 ⟨rfl,hc,hm⟩;rw[I.out] at hc ⊢;have b7:=LU c4.out c5.out 5 rfl (by decide);generalize F7 l e6 q6 5=T at *;generalize F6 l e6 q6 5=f6 at *;generalize F8 l e6 q6 5=q7 at *;have Q:=b6.move hc hm;clear hc hm b6;have t:=Q.at (i:=4) rfl;have y:=Q.free 4;have ai:=Q.set 4 (.int .i64 T)
 go_wp2_with fail
 try clear t y
 refine(Oy _ X A b s f6 q7 (decide (1<=T)) 9 ai.cap).mono ?_;rintro r6 u6 ⟨rfl,hc,hm⟩;rw[b7.test (decide (1<=T)) 9 (vT _ _)] at hc;obtain⟨e7,d⟩:=Ai (eS l p 7);rw[d] at hc;have c6:=Dl d;have b8:=Dl fun h=>b7.done (d.trans h);have c7:=Dl fun h=>(b8.out h).2.2;have b9:=ai.move hc hm;clear d hc hm ai Q b7 c4 c5
 go_wp2_with fail
 try clear t y
 refine(JV _ X A b s e7 q7 1 b9.cap).mono ?_;rintro r7 z7 ⟨rfl,hc,hm⟩;rw[I.out] at hc ⊢;have ca:=LU c6.out c7.out 1 rfl (by decide);generalize F7 l e7 q7 1=v7 at *;generalize F6 l e7 q7 1=f7 at *;generalize F8 l e7 q7 1=q8 at *;have aj:=b9.move hc hm;clear hc hm b9
 go_wp2_with fail
 try clear t y
 refine(Oy _ X A b s f7 q8 (v7==0) 6 aj.cap).mono ?_;rintro r7 u7 ⟨rfl,hc,hm⟩;rw[ca.test (v7==0) 6 (Wh (.inr rfl) _ _)] at hc;obtain⟨e8,d⟩:=Ai (eS l p 8);rw[d] at hc;have c8:=Dl d;have cb:=Dl fun h=>ca.done (d.trans h);have c9:=Dl fun h=>(cb.out h).2.2;have cc:=aj.move hc hm;clear d hc hm aj ca c6 c7;obtain⟨b4,o⟩:=Ai (v4==1);rw[o] at cc
 have da:PwS w A X (X+1) b s u7 e8 q8 (AQ ⟨v0,v2,N,b4,T,[]⟩ (.slice none 0 0) (.slice none 0 0) 0):=cc;have db:=Lf.start c8.out (fun h=>c9.out h);obtain⟨i0,hi,cd,ce,cf⟩:=Dr wH;have a2:u7.ownsRow (X+2) 3 1 (.slice none 0 0) ([]:List Int).length (MX []):=Dj _ _ _ _;have di:=Dl o
 have dj:Hid (eS l p 8=0->∀L,KH l (p+22) L=⟨v0,v2,N,b4,T,L⟩):=Dl fun h8 L=>by
  have g7:=(cb.out (c8.out.symm.trans h8)).1;obtain⟨g6,x6,-⟩:=b8.out g7;have g5:=(b5.out g6).1;obtain⟨g4,x4,-⟩:=b1.out g5;obtain⟨g3,x3,-⟩:=bx.out g4;obtain⟨g2,x2,-⟩:=bu.out g3;have g1:=(br.out g2).1;obtain⟨-,x0,-⟩:=bo.out g1;unfold KH;rw[<-o,x0,x2,x3,x4,x6]
  congr 1
  rw[Iz];simp only[Bm];omega
 clear o cc c9 bo br bu bx b1 b5 b8 cb ay
 go_wp2
 go_loopw [55] (fun _ wr=>∃(e:Int) (q:Nat) (L:List Int) (v:A0),PwS w A X (X+1) b s wr e q (AQ ⟨v0,v2,N,b4,T,[]⟩ v (.slice none 0 0) 0)/\wr.ownsRow (X+2) 3 1 v L.length (MX L)/\Lf l p e q L) (fun _ wr=>match wr.cell? ⟨X+1,5,none⟩ with|some (.slice _ n _)=>10-n|_=>0)
 case atStart=>exact⟨e8,q8,[],_,da,a2,db⟩
 case round=>
  clear da a2 db;obtain⟨e,q,L,v,an,hu,hR⟩:=hrel;obtain⟨pa,cap,rfl,a3⟩:=Tf rfl hu;obtain⟨x1,x2⟩:=hR.bit
  go_wp2_with fail
  refine(JV _ X A b s e q 1 an.cap).mono ?_;rintro r z0 ⟨rfl,hc,hm⟩;rw[I.out] at hc ⊢;have D:=an.move hc hm;have H:=Ra hu hm (by omega) (by have:=an.sep;omega);have a4:=an.at (i:=5) rfl;generalize F7 l e q 1=cg at *;generalize F6 l e q 1=ac at *;generalize F8 l e q 1=bf at *;by_cases hV:cg=1
  ·obtain⟨rfl,rfl,rfl,y1,y2⟩:=x2 hV;obtain⟨dk,ch⟩:=hR.byte y1 y2;have d1:(cg==1)=true:=by rw[hV];rfl
   have k5:=D.at (i:=5) rfl;clear x1 x2 hc hm hu hR hV an
   go_wp2_with fail
   clear k5;refine(Oy _ X A b s 0 (q+1) (decide ((L.length:Int)<8)) 13 D.cap).mono ?_;rintro r u1 ⟨rfl,hc,hm⟩;have dc:=D.move hc hm;have a5:=Ra H hm (by omega) (by have:=D.sep;omega);have dl:=D.sep;generalize IQ 0 (decide ((L.length:Int)<8)) 13=af at *;have bi:=dc.drew;have k5:=bi.at (i:=5) rfl;clear D H hc hm a3 d1 y1 y2 dc
   go_wp2
   refine I0 (by kernel_rfl) ?_;change wpAny _ _ _ _ _ _ _ (World.drew _);refine E0 0 (some 63) (v:=.pointer (some ⟨X+1,5,none⟩)) rfl rfl (by kernel_rfl) (by kernel_rfl) (by kernel_rfl) (fun _ _ _ h=>h) (Or.inl ⟨by kernel_rfl,?_⟩) ?_
   ·(intro x;go_simp;try with_reducible rfl)
   try simp only[A1]
   refine E0 2 (some 65) (v:=.func (.func 174) #[] #[.pointer (some ⟨X,0,none⟩),.pointer (some ⟨A,0,none⟩)]) rfl rfl (by kernel_rfl) (by kernel_rfl) (by kernel_rfl) (fun _ _ _ h=>h) (Or.inl ⟨by kernel_rfl,?_⟩) ?_
   ·(intro x;go_simp;try with_reducible rfl)
   try simp only[A1]
   refine WY (S:=fun x=>x.cell? ⟨X+1,5,none⟩=some (.slice pa L.length cap)) 1 3 4 (some 64) (v:=.slice pa L.length cap) rfl rfl rfl rfl (by kernel_rfl) (by kernel_rfl) (by kernel_rfl) (fun _ _ _ h=>h) (by kernel_rfl) (by kernel_rfl) (by kernel_rfl) (by kernel_rfl) (by kernel_rfl) (by decide) (by decide) k5 (Or.inl ⟨by kernel_rfl,?_⟩) ?_
   ·(intro x hx;have c0:=(show _ from hx);go_simp)
   try simp only[A1]
   refine wpOp_step rfl (fun K C=>?_);have a6:=Dl C;clear C
   go_simp
   go_wp2_with fail
   refine(JV _ X A b s af (q+1) 8 bi.cap).mono ?_;rintro r z2 ⟨rfl,hc,hm⟩;rw[I.out] at hc ⊢;have bj:=bi.move hc hm;have a7:=Ra a5.drew hm (by omega) (by omega);have dm:=bj.sep;generalize F7 l af (q+1) 8=U at *;generalize F6 l af (q+1) 8=bg at *;generalize F8 l af (q+1) 8=bh at *;refine a6.out _ _ ⟨bj.at (i:=5) rfl,?_⟩;clear a6 K k5 hc hm bi a5;refine wpOp_step rfl (fun K C=>?_)
   have a6:=Dl C;clear C
   go_simp
   have ci:=bj.grown (I5 z2 (.cells #[.int .i64 U] 3 (0,0)) none) (fun g h=>by cases h);refine a6.out _ _ ⟨ci.at (i:=5) rfl,?_⟩;clear a6 K;have o:=a7.alloc (.cells #[.int .i64 U] 3 (0,0));have a8:(z2.alloc (.cells #[.int .i64 U] 3 (0,0))).cell? ⟨z2.heap.size,0,none⟩=some (.int .i64 U):=A2 (cs:=[.int .i64 U]) (heap_alloc_new z2 _) rfl
   have a9:X+2<=(z2.alloc (.cells #[.int .i64 U] 3 (0,0))).heap.size:=by simp;omega
   refine Ot (rs:=[5]) (by kernel_rfl) (by simp) ?_;refine On rfl (fun K C=>?_) Oq;refine(Bc (by kernel_rfl)).mpr ?_;refine pE rfl underlying36 hi cd rfl ce cf rfl o rfl a8 (by omega) a9 ?_;intro dn w4 ak cj;obtain⟨pa2,cap2,ck,-⟩:=Tf (l:=L++[U]) (n:=L.length+1) (by simp) (by rw[VH];exact ak);subst ck
   have cl:=ci.grown cj (fun g hg=>by have:=Oz o g hg;omega);refine C _ _ ?_;clear C K ci bj o a8 a9 a7;have k5:=cl.at (i:=5) rfl;have k6:=cl.free 5;have dd:=cl.set 5 (.slice pa2 (L.length+1) cap2);refine E0 6 (some 69) (v:=.pointer (some ⟨X+1,5,none⟩)) rfl rfl (by kernel_rfl) (by kernel_rfl) (by kernel_rfl) (fun _ _ _ h=>h) (Or.inl ⟨by kernel_rfl,?_⟩) ?_
   ·(intro x;go_simp;try with_reducible rfl)
   try simp only[Act.put]
   refine Ot (rs:=[7]) (by kernel_rfl) (by simp) ?_;refine On rfl (fun K C=>?_) Oq
   go_simp
   refine C _ _ ?_;clear C K k5 k6;refine wpAny_done (by kernel_rfl) ?_ _;have cm:=ak.kept (DC w4 ⟨X+1,5,none⟩ (.slice pa2 (L.length+1) cap2)) (by cases hv:(Value.slice pa2 (L.length+1) cap2).ownBlock with|none=>exact .inl rfl|some g=>exact .inr (by have:=Oz ak g hv;show some g≠some (X+1);intro e;injection e with e;omega));have cn:=dd.at (i:=5) rfl
   go_wp2
   go_roundw
   case rel=>exact⟨bg,bh,L++[U],_,dd,by rw[B9,VH];exact cm,ch⟩
   case measure=>
    rw[a4,cn];simp only;omega
  ·have hE:=x1 hV;have d1:(cg==1)=false:=by rw[Ez];exact hV
   clear x1 x2 hc hm hu hR hV an a3 a4;obtain⟨Z,hZ⟩:=Ai ((AQ ⟨v0,v2,N,b4,T,[]⟩ (.slice pa L.length cap) (.slice none 0 0) 0).toArray);have al:(prog.info? 39).map (·.size)=some Z.size:=hZ▸YW _ _ _ _;have ba:Z.all (·.oneCell')=true:=hZ▸PG _ _ _ _ _ _ _ _;have co:(AQ FB (.slice none 0 0) (.slice none 0 0) 0).toArray.size=Z.size:=by rw[<-hZ];rfl
   have bb:z0.heap[X+1]? =some (.cells Z 39 (0,0)):=hZ▸D.sh;have bc:z0.cell? ⟨X,0,none⟩=some (.int .i64 ac):=A2 D.cap.wrong rfl;have dp:=Dl hZ;have de:=D.sep;clear hZ
   go_wp2
   refine Ol (S:=(fun x=>x.heap[X+1]? =some (.cells Z 39 (0,0))/\x.cell? ⟨X,0,none⟩=some (.int .i64 ac))) (by kernel_rfl) ⟨bb,bc⟩ (fun hH=>?_)
   refine BQ 0 (some 70) (v:=.agg Z) rfl rfl (by kernel_rfl) (by kernel_rfl) (by kernel_rfl) (fun _ _ _ h=>h) hH (Or.inl ⟨by kernel_rfl,fun x hx=>FU (ty:=39) (x:=.tmp 7) (ad:=⟨X+1,0,none⟩) (by kernel_rfl) (by kernel_rfl) (Au x (X+1) _ _ Z (0,0) _ hx.1 Og rfl al)⟩) ?_
   try simp only[A1]
   refine F5 1 (some 71) (v:=.int .i64 ac) rfl rfl hH (by kernel_rfl) (fun x hx=>by have c0:=hx.2;go_simp) ?_
   try simp only[A1]
   refine Oj (rs:=[2]) (by kernel_rfl) (by simp) ?_;refine Oh rfl (fun K C=>?_) Oi;refine(Bc (by kernel_rfl)).mpr ?_;refine Oo 39 _ _ rfl (A+1) Z rfl rfl 39 _ D.drew.res al co ba ?_;obtain⟨w5,R⟩:=Ai (z0.drew.setRow (A+1) Z);have cp:w5.heap[A+1]? =some (.cells Z 39 (0,0)):=by rw[<-R];exact En _ _ _ _ _ _ D.drew.res
   have m:z0.drew.grownBy w5 (some (A+1)):=by rw[<-R];exact⟨rfl,rfl,rfl,by simp,fun k _ hk=>Em _ _ _ _ (by intro e;exact hk (by rw[e]))⟩
   rw[R];have cq:(fun x=>x.heap[X+1]? =some (.cells Z 39 (0,0))/\x.cell? ⟨X,0,none⟩=some (.int .i64 ac)) w5:=⟨(m.block (X+1) (by show X+1<z0.heap.size;omega) (by simp;omega)).trans bb,(Fz (a:=⟨X,0,none⟩) (m.block X (by show X<z0.heap.size;omega) (by simp;omega))).trans bc⟩;refine C.out _ _ cq (fun cr=>?_);clear C K hH R;refine AL 3 (some 3) cr ?_
   try simp only[Act.put]
   refine Om (by kernel_rfl) ?_ _
   go_wp2
   refine Hi (BF rfl _ _ (A+1) 39 _ (0,0) _ rfl cp Og rfl al) rfl ?_;have ct:=H.drew.kept m (by cases hv:(Value.slice pa L.length cap).ownBlock with|none=>exact .inl rfl|some g=>exact .inr (by have:=Oz H g hv;show some g≠some (A+1);intro e;injection e with e;omega));obtain⟨dq,df,cu,bd⟩:=Tf rfl ct;injection cu with e1 e2 e3;subst e1
   have j:=D.drew.low;have am:=D.drew.cap.rd;refine⟨⟨v0,v2,N,b4,T,L⟩,pa,cap,bf,?_,fun h0=>?_,bd,fun x hx=>?_,⟨(m.block b am.lt (by simp;omega)).trans am.1,am.2⟩,m.os.trans j.os,m.tape.trans j.tape,m.output.trans j.output,Ea j.size m.size,fun k hk hn=>(m.block k (Bg hk j.size) (by simp;omega)).trans (j.block k hk hn)⟩
   ·rw[hE.1,<-dp.out];rfl
   ·rw[hE.1] at h0;obtain⟨g1,g2⟩:=hE.2 h0;rw[g2,dj.out g1 L]
   ·have:=Oz H x.block (by rw[hx];rfl);omega
theorem eN {l:List UInt8}{p:Nat}(h:(shk l p).2.2≠0):(shk l p).1=FB/\(shk l p).2.1=p:=by
 by_cases h1:CT l p=0
 ·by_cases h2:upS l (p+22) 8=0
  ·by_cases h3:(BV l 8 (p+49)).2.2=0
   ·rw[QF h1 h2 h3] at h;exact absurd rfl h
   ·rw[T5 h1 h2 h3];exact⟨rfl,rfl⟩
  ·rw[TD h1 h2];exact⟨rfl,rfl⟩
 ·rw[Qa h1];exact⟨rfl,rfl⟩
def Zm (l:List UInt8)(s:ByteArray)(p b:Nat)(w:A5)(e:Ending)(c:A5):Prop:=
 ∃(a:Option Addr) (cap:Nat),e=.returned (.tuple #[.agg (AQ (shk l p).1 (.slice a (shk l p).1.supp.length cap) (.slice none 0 0) 0).toArray,.int .i64 (shk l p).2.2])/\
  BH c a (shk l p).1.supp/\(∀x,a=some x->w.heap.size<=x.block)/\AG c b s (shk l p).2.1/\w.grownBy c (some b)
set_option maxRecDepth 100000 in
theorem uK (w:A5)(b:Nat)(s:ByteArray)(p:Nat)(hr:AG w b s p)(hs:s.size<=1099511627776):
  Calls prog 126 #[.pointer (some ⟨b,0,none⟩)] w (Zm s.data.toList s p b w):=by
 have c:=fun w hr=>fU w b s p hr hs;have hp:=hr.2.1;have ae:b<w.heap.size:=hr.lt;obtain⟨A,I⟩:=Ai w.heap.size;obtain⟨wA,m⟩:=Ai (w.alloc (.cells #[.int .i64 0,.int .i64 0,.int .i64 0,.bool false,.int .i64 0,.slice none 0 0,.slice none 0 0,.int .i64 0] 39 (0,0)));have n:Below A w wA:=by rw[<-m,<-I];exact(Dm _ w).alloc (Ba _) _
 have af:wA.heap.size=A+1:=by rw[<-m,<-I];simp
 have R:wA.heap[A]? =some (.cells #[.int .i64 0,.int .i64 0,.int .i64 0,.bool false,.int .i64 0,.slice none 0 0,.slice none 0 0,.int .i64 0] 39 (0,0)):=by rw[<-m,<-I];exact heap_alloc_new w _
 have J:AG wA b s p:=hr.below (I▸n);have bad:=fun h=>eN (l:=s.data.toList) (p:=p) h;obtain⟨l,hl⟩:=Ai s.data.toList;rw[hl] at c bad ⊢;have ag:=Dl m;have ad:=Dl I;rw[I] at ae;clear m hr hl
 go_enter func126,ntmps126
 go_wp2_with fail
 rw[ag.out];refine(E1 _ _ _ _ J).mono ?_;rintro e u ⟨rfl,rfl⟩
 go_wp2_with fail
 refine(c _ J).mono ?_;rintro e S ⟨h,a,cap,q,rfl,B,T,U,V,D⟩;clear c J;obtain⟨f,hf⟩:=Ai ((shk l p).2.2);rw[hf] at B bad ⊢;have al:=Dl hf;obtain⟨Z,P⟩:=Ai ((AQ h (.slice a h.supp.length cap) (.slice none 0 0) 0).toArray);rw[P];have r:(prog.info? 39).map (·.size)=some Z.size:=P▸YW _ _ _ _;have t:Z.all (·.oneCell')=true:=P▸PG _ _ _ _ _ _ _ _
 have K:(#[.int .i64 0,.int .i64 0,.int .i64 0,.bool false,.int .i64 0,.slice none 0 0,.slice none 0 0,.int .i64 0]:Array A0).size=Z.size:=by rw[<-P];rfl
 have W:(prog.info? 39).map (·.size)=some (#[.int .i64 0,.int .i64 0,.int .i64 0,.bool false,.int .i64 0,.slice none 0 0,.slice none 0 0,.int .i64 0]:Array A0).size:=UW;have ah:(#[.int .i64 0,.int .i64 0,.int .i64 0,.bool false,.int .i64 0,.slice none 0 0,.slice none 0 0,.int .i64 0]:Array A0).all (·.oneCell')=true:=by kernel_rfl
 obtain⟨C,F⟩:=Ai S.heap.size;obtain⟨L,v⟩:=Ai (S.alloc (.cells Z 39 (0,0)));have am:A+1<=C:=by have:=D.size;omega
 have y:Below C S L:=by rw[<-v,<-F];exact(Dm _ S).alloc (Ba _) _
 have X:L.heap[C]? =some (.cells Z 39 (0,0)):=by rw[<-v,<-F];exact heap_alloc_new S _
 have M:L.heap[A]? =some (.cells #[.int .i64 0,.int .i64 0,.int .i64 0,.bool false,.int .i64 0,.slice none 0 0,.slice none 0 0,.int .i64 0] 39 (0,0)):=(y.block A (by omega)).trans ((D.block A (by omega) (by simp;omega)).trans R);have z:AG L b s q:=V.below (F▸y);have G:BH L a h.supp:=T.below (F▸y)
 have g:w.grownBy L (some b):=AO (AO (BR (ad.out▸n) _) D) (BR (F▸y) _);have an:C<L.heap.size:=by rw[<-v,<-F];simp
 have ao:=Dl P;have aj:=Dl F;have Y:=Dl v;clear hf R P F v T V D y n I;by_cases h0:f=0
 ·subst h0;have H:=B rfl;have ai:=Dl H;clear B bad H
  go_wp2_with (first|(with_reducible refine BZ rfl 39 _ _ rfl Z _ 39 rfl rfl r K t ?_;rw[Y.out,aj.out])|(with_reducible refine Of rfl 39 _ rfl C rfl 39 Z (0,0) _ X Og rfl r ?_)|(with_reducible refine B2 rfl 39 _ _ rfl A Z _ rfl rfl 39 M r K t ?_;intro w5 N d))
  refine Hi (BF rfl _ _ A 39 _ (0,0) _ rfl N Og rfl r) rfl ?_;have aa:BH w5 a h.supp:=by
   rcases G with k|⟨x,o,rfl,ab,k⟩
   ·exact .inl k
   ·have Q:=U ⟨x,o,none⟩ rfl;have Q:A+1<=x:=by rw[<-af];exact Q
    exact .inr ⟨x,o,rfl,Bg ab d.size,fun i hi=>(Fz (a:=⟨x,o+i,none⟩) (d.block x ab (by simp;omega))).trans (k i hi)⟩
  refine⟨a,cap,?_,?_,fun x Q=>?_,?_,?_⟩
  ·rw[ai.out,ao.out];rfl
  ·rw[ai.out];exact aa
  ·have:=U x Q;have:=ad.out;omega
  ·rw[ai.out];exact⟨(d.block b z.lt (by simp;omega)).trans z.1,z.2⟩
  ·exact⟨d.os.trans g.os,d.tape.trans g.tape,d.output.trans g.output,Ea g.size d.size,fun k H hn=>(d.block k (Bg H g.size) (by have:=ad.out;simp;omega)).trans (g.block k H hn)⟩
 ·have d1:(f != 0)=true:=by simpa using h0
  obtain⟨b1,b2⟩:=bad h0;have ak:=Dl b1;have ap:=Dl b2;clear B bad b1 b2 G h0
  go_wp2_with (with_reducible refine BZ rfl 39 _ _ rfl Z _ 39 rfl rfl r K t ?_;rw[Y.out,aj.out])
  refine(GA _ _ _ _ (p:Int) z (by omega) (by omega)).mono ?_;rintro e w3 ⟨rfl,E,O⟩;rw[Do] at E;have ac:=(O.block A (by omega) (by simp;omega)).trans M;have j:=AO g O;clear M O g z X
  go_wp2_with (with_reducible refine B2 rfl 39 _ _ rfl A _ _ rfl rfl 39 ac W rfl ah ?_;intro w5 N d)
  refine Hi (BF rfl _ _ A 39 _ (0,0) _ rfl N Og rfl W) rfl ?_;refine⟨none,0,?_,?_,(fun x Q=>by cases Q),?_,?_⟩
  ·rw[ak.out,al.out];rfl
  ·rw[ak.out];exact BH.nil _ _
  ·rw[ap.out];exact⟨(d.block b E.lt (by simp;omega)).trans E.1,E.2⟩
  ·exact⟨d.os.trans j.os,d.tape.trans j.tape,d.output.trans j.output,Ea j.size d.size,fun k H hn=>(d.block k (Bg H j.size) (by have:=ad.out;simp;omega)).trans (j.block k H hn)⟩
end Go.Proofs.YtjjmalchelniiaaGreatDoor