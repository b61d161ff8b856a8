/- StripsWrites, 50. No condition. -/
import Derived.Test.YtjjmalchelniiaaGreatDoorStripsWritesMa
import Derived.Test.YtjjmalchelniiaaGreatDoorStripsWritesMi
import Derived.Test.YtjjmalchelniiaaGreatDoorStripsWritesMo
import Derived.Test.YtjjmalchelniiaaGreatDoorStripsWritesMy
open Go.Proofs.Tryz
open Go renaming World->A5,Value->A0
set_option maxHeartbeats 8000000
namespace Go.Proofs.YtjjmalchelniiaaGreatDoor
open Go.RowKit Go.Lib
abbrev Ow:=@wpList_load_row
abbrev Ox:=@underlying39
abbrev Oy:=@AllReadyH.cons
abbrev Oz:=@AllReadyH.nil
abbrev Pa:=@wpAnyH_ready
abbrev Pb:=@wp_region_held_drew
abbrev Pc:=@wpAnyH_done
abbrev Pd:=@AllReady.cons
abbrev Pe:=@wp_store_row
abbrev Pf:=@AllReady.nil
abbrev Pg:=@wpAny_ready
def eS (l:List UInt8)(p n:Nat):Int:=if D7 l p≠0 then D7 l p else upS l (p+22) n
theorem T3 {l:List UInt8}{p n:Nat}:eS l p n=0↔D7 l p=0/\upS l (p+22) n=0:=by
 unfold eS;by_cases h:D7 l p=0
 ·rw[Bb (fun k=>k h)];exact⟨fun k=>⟨h,k⟩,fun k=>k.2⟩
 ·rw[Bc h];exact⟨fun k=>absurd k h,fun k=>absurd k.1 h⟩
theorem WW (l:List UInt8)(p:Nat):D7 l p=eS l p 0:=by
 unfold eS
 split
 ·rfl
 ·show _=(0:Int);omega
theorem X5 {l:List UInt8}{p n:Nat}(h:eS l p n=0):eS l p (n+1)=PD l (p+22) n:=by
 obtain⟨h1,h2⟩:=T3.1 h;unfold eS;rw[Bb (fun k=>k h1),TE h2]
theorem pQ {l:List UInt8}{p n:Nat}(h:eS l p n≠0):eS l p (n+1)=eS l p n:=by
 unfold eS at *
 split
 ·rfl
 ·rename_i h1
  rw[Bb h1] at h;exact Vi h
structure Y2c (l:List UInt8) (p n:Nat) (e V E:Int) (Q:Nat):Prop where
 ok:E=0->e=0/\V=((CK l (p+22) n:Nat):Int)/\Q=p+22+CN (n+1)/\eS l p (n+1)=E0 n (CK l (p+22) n)
 bad:E≠0->E=eS l p (n+1)
theorem MY {l:List UInt8}{p n q:Nat}{e:Int}(b:eS l p n=e)(c:e=0->q=p+22+CN n)(d:Int)(hd:d=((EZ n:Nat):Int))(hn:EZ n<=32):
  Y2c l p n e (FE l e q d) (FG l e q d) (FH l e q d):=by
 unfold FE FG FH;by_cases a:e=0
 ·rw[Bc a,Bc a,Bc a];have c:=c a;subst hd c;by_cases hs:8*l.length<p+22+CN n+EZ n
  ·rw[show CF l (p+22+CN n) ((EZ n:Nat):Int)=p+22+CN n by unfold CF;rw[FM (by omega) (by omega)];rfl,FM (by omega) (by omega)];exact⟨fun h=>absurd h (by decide),fun _=>by rw[X5 (b.trans a),Zx hs]⟩
  ·rw[show CF l (p+22+CN n) ((EZ n:Nat):Int)=p+22+CN n+EZ n by unfold CF;rw[EL (by omega) (by omega)];rfl,EL (by omega) (by omega)];exact⟨fun _=>⟨a,rfl,by show _=p+22+(CN n+EZ n);omega,by rw[X5 (b.trans a),UZ (by omega)]⟩,fun h=>absurd rfl h⟩
 ·rw[Bb a,Bb a,Bb a];exact⟨fun h=>absurd h a,fun _=>by rw[pQ (by rw[b];exact a),b]⟩
theorem Y2c.test {l:List UInt8}{p n:Nat}{e V E:Int}{Q:Nat}(h:Y2c l p n e V E Q)(a:Bool)(b:Int)
  (d:V=((CK l (p+22) n:Nat):Int)->E0 n (CK l (p+22) n)=if a=true then 0 else b):JR E a b=eS l p (n+1):=by
 unfold JR;by_cases c:E=0
 ·obtain⟨-,h1,-,h2⟩:=h.ok c;rw[h2,d h1];cases a with
  |true=>rw[Bb (by simp),Bc rfl,c]
  |false=>rw[Bc ⟨c,rfl⟩,Bb (by decide)]
 ·rw[Bb (by omega)];exact h.bad c
theorem Y2c.free {l:List UInt8}{p n:Nat}{e V E:Int}{Q:Nat}(h:Y2c l p n e V E Q)(b:E0 n (CK l (p+22) n)=0):E=eS l p (n+1):=by
 by_cases a:E=0
 ·obtain⟨-,-,-,h2⟩:=h.ok a;rw[h2,b,a]
 ·exact h.bad a
theorem Y2c.done {l:List UInt8}{p n:Nat}{e V E:Int}{Q:Nat}(h:Y2c l p n e V E Q)(a:eS l p (n+1)=0):e=0/\V=((CK l (p+22) n:Nat):Int)/\Q=p+22+CN (n+1):=by
 have h1:E=0:=by
  by_cases h1:E=0
  ·exact h1
  ·exact absurd ((h.bad h1).trans a) h1
 exact⟨(h.ok h1).1,(h.ok h1).2.1,(h.ok h1).2.2.1⟩
theorem S4 {n v:Nat}(h:n=0\/n=2\/n=4):E0 n v=0:=by
 unfold E0;rw[Bb (by omega),Bb (by omega),Bb (by omega)]
theorem dU (v:Nat)(V:Int)(h:V=(v:Int)):E0 1 v=if (V==2)=true then 0 else 5:=by
 subst h;unfold E0;by_cases hv:v=2
 ·rw[Bb (by omega),Bb (by omega),Bb (by omega),Bc (by rw[hv];rfl)]
 ·rw[Bc (by omega),Bb (by simp;omega)]
theorem iY (v:Nat)(V:Int)(h:V=(v:Int)):E0 3 v=if DV V=true then 0 else 5:=by
 subst h;unfold E0;cases hv:DV (v:Int) with
 |false=>rw[Bc (by simp),Bb (by decide)]
 |true=>rw[Bb (by simp),Bb (by omega),Bb (by omega),Bc rfl]
theorem Xb {n:Nat}(hn:n=5\/n=7)(v:Nat)(V:Int)(h:V=(v:Int)):E0 n v=if (V==0)=true then 0 else 6:=by
 subst h;unfold E0;by_cases hv:v=0
 ·rw[Bb (by omega),Bb (by omega),Bb (by omega),Bc (by rw[hv];rfl)]
 ·rw[Bb (by omega),Bc (by omega),Bb (by simp;omega)]
theorem Qbz (v:Nat)(V:Int)(h:V=(v:Int)):E0 6 v=if decide (1<=V)=true then 0 else 9:=by
 subst h;unfold E0;by_cases hv:v=0
 ·rw[Bb (by omega),Bb (by omega),Bc ⟨rfl,hv⟩,Bb (by simp;omega)]
 ·rw[Bb (by omega),Bb (by omega),Bb (by omega),Bc (by simp;omega)]
def LX (l:List UInt8)(p:Nat)(e:Int)(q:Nat)(L:List Int):Prop:=
 (e≠0/\(shk l p).2.2=e)\/(e=0/\L.length<=8/\eS l p 8=0/\CC l 8 (p+49)=(L++(CC l (8-L.length) q).1,(CC l (8-L.length) q).2))
def Qo7 (l:List UInt8)(p:Nat)(e:Int)(q:Nat)(L:List Int):Prop:=
 (shk l p).2.2=e/\(e=0->eS l p 8=0/\shk l p=(LI l (p+22) L,q,0))
theorem LX.start {l:List UInt8}{p q:Nat}{e:Int}(a:eS l p 8=e)(c:e=0->q=p+49):LX l p e q []:=by
 by_cases b:e=0
 ·right
  rw[c b];exact⟨b,Ds _,a.trans b,rfl⟩
 ·left
  refine⟨b,?_⟩;unfold eS at a;by_cases hm:D7 l p=0
  ·rw[Bb (fun k=>k hm)] at a;rw[Ue hm (by rw[a];exact b),a]
  ·rw[Bc hm] at a;rw[Rs hm,a]
theorem Ta {l:List UInt8}{p:Nat}(b:eS l p 8=0){f:Int}(a:(CC l 8 (p+49)).2.2=f)(c:f≠0):(shk l p).2.2=f:=by
 obtain⟨h1,h2⟩:=T3.1 b;rw[TR h1 h2 (by rw[a];exact c),a]
theorem LX.bit {l:List UInt8}{p q:Nat}{e:Int}{L:List Int}(h:LX l p e q L):
  (FE l e q 1≠1->Qo7 l p (FG l e q 1) (FH l e q 1) L)/\(FE l e q 1=1->e=0/\FG l e q 1=0/\FH l e q 1=q+1/\q+1<=8*l.length/\AE l q 1≠0):=by
 unfold FE FG FH;rcases h with ⟨a,d⟩|⟨a,m,b,hs⟩
 ·rw[Bb a,Bb a,Bb a];exact⟨fun _=>⟨d,fun k=>absurd k a⟩,fun k=>absurd k (by decide)⟩
 ·rw[Bc a,Bc a,Bc a];by_cases c:8*l.length<q+1
  ·rw[show CF l q 1=q by unfold CF;rw[FM (by omega) (by omega)];rfl,FM (by omega) (by omega)];refine⟨fun _=>⟨?_,fun k=>absurd k (by decide)⟩,fun k=>absurd k (by decide)⟩;rw[Z1 c] at hs;exact Ta b (by rw[hs]) (by decide)
  ·have ht:CF l q 1=q+1:=by unfold CF;rw[EL (by omega) (by omega)];rfl
   have f:ask l q 1=(((AE l q 1:Nat):Int),0):=EL (by omega) (by omega);rw[ht,f];have g:=F1 l q 1;by_cases h1:AE l q 1=0
   ·refine⟨fun _=>?_,fun k=>absurd k (by simp only[h1];decide)⟩;rw[SU (by omega) h1] at hs;obtain⟨i,j⟩:=T3.1 b;have e:shk l p=(LI l (p+22) (CC l 8 (p+49)).1,(CC l 8 (p+49)).2.1,0):=QV i j (by rw[hs]);rw[hs,Fb] at e;exact⟨by rw[e],fun _=>⟨b,e⟩⟩
   ·refine⟨fun k=>absurd ?_ k,fun _=>⟨a,rfl,rfl,by omega,h1⟩⟩;show ((AE l q 1:Nat):Int)=1;omega
theorem LX.byte {l:List UInt8}{p q:Nat}{L:List Int}(h:LX l p 0 q L)(a:q+1<=8*l.length)(h1:AE l q 1≠0):
  L.length<=8/\LX l p (FG l (JR 0 (decide ((L.length:Int)<8)) 13) (q+1) 8) (FH l (JR 0 (decide ((L.length:Int)<8)) 13) (q+1) 8) (L++[FE l (JR 0 (decide ((L.length:Int)<8)) 13) (q+1) 8]):=by
 rcases h with ⟨g,_⟩|⟨_,i,c,hs⟩
 ·exact absurd rfl g
 refine⟨i,?_⟩;by_cases b:L.length=8
 ·have d:JR 0 (decide ((L.length:Int)<8)) 13=13:=by unfold JR;rw[Bc ⟨rfl,I3 (by omega)⟩]
  rw[d];unfold FE FG FH;rw[Bb (by decide),Bb (by decide),Bb (by decide)]
  left
  refine⟨by decide,?_⟩;rw[b,Ci,Wo a h1] at hs;exact Ta c (by rw[hs]) (by decide)
 ·have d:JR 0 (decide ((L.length:Int)<8)) 13=0:=by unfold JR;rw[Bb (fun k=>by have:=k.2;rw[I4 (by omega)] at this;cases this)]
  rw[d];unfold FE FG FH;rw[Bc rfl,Bc rfl,Bc rfl];obtain⟨k,j⟩:∃k,8-L.length=k+1:=⟨7-L.length,by omega⟩;rw[j] at hs;by_cases e:8*l.length<q+1+8
  ·rw[show CF l (q+1) 8=q+1 by unfold CF;rw[FM (by omega) (by omega)];rfl,FM (by omega) (by omega)]
   left
   refine⟨by decide,?_⟩;rw[YU a h1 e] at hs;exact Ta c (by rw[hs]) (by decide)
  ·rw[show CF l (q+1) 8=q+9 by unfold CF;rw[EL (by omega) (by omega)];rfl,EL (by omega) (by omega)]
   right
   rw[UI h1 (by omega)] at hs;refine⟨rfl,by rw[B9];show L.length+1<=8;omega,c,?_⟩;have f:8-(L++[(((AE l (q+1) (Int.toNat 8):Nat):Int),(0:Int)).1]).length=k:=by rw[B9];show 8-(L.length+1)=k;omega
   rw[f,hs];simp
structure PwS (w0:A5) (A X S b:Nat) (s:ByteArray) (w:A5) (e:Int) (q:Nat) (Z:List A0):Prop where
 cap:Cap w X A b s e q
 sh:w.heap[S]? =some (.cells Z.toArray 39 (0,0))
 res:w.heap[A+1]? =some (.cells (Bx FK (.slice none 0 0) (.slice none 0 0) 0).toArray 39 (0,0))
 low:w0.grownBy w (some b)
 sep:w0.heap.size=A/\b<A/\A+1<X/\X<S/\S<w.heap.size
theorem PwS.move {w0 w a:A5}{A X S b:Nat}{s:ByteArray}{e c:Int}{q q':Nat}{Z:List A0}(h:PwS w0 A X S b s w e q Z)(hc:Cap a X A b s c q')(hm:Yb1 X b w a):PwS w0 A X S b s a c q' Z:=by
 obtain⟨i,j,l,m,d⟩:=h.sep;exact⟨hc,(hm.block S d (by omega) (by omega)).trans h.sh,(hm.block (A+1) (by omega) (by omega) (by omega)).trans h.res,
  ⟨hm.os.trans h.low.os,hm.tape.trans h.low.tape,hm.output.trans h.low.output,Eg h.low.size hm.size,fun k f g=>(hm.block k (Bg f h.low.size) (by omega) (by simpa using g)).trans (h.low.block k f g)⟩,
  i,j,l,m,Bg d hm.size⟩
theorem PwS.set {w0 w:A5}{A X S b:Nat}{s:ByteArray}{e:Int}{q:Nat}{Z:List A0}(h:PwS w0 A X S b s w e q Z)(i:Nat)(v:A0):PwS w0 A X S b s (w.setCell ⟨S,i,none⟩ v) e q (Z.set i v):=by
 obtain⟨d,f,g,j,l⟩:=h.sep;have a:=DM w ⟨S,i,none⟩ v;exact⟨h.cap.set _ _ ⟨show S≠X by omega,show S≠A by omega,show S≠b by omega⟩,BF v h.sh,(a.block (A+1) (by omega) (by show some (A+1)≠some S;intro e;injection e with e;omega)).trans h.res,
  ⟨h.low.os,h.low.tape,h.low.output,Eg h.low.size a.size,fun k c m=>(a.block k (Bg c h.low.size) (by show some k≠some S;intro e;injection e with e;omega)).trans (h.low.block k c m)⟩,
  d,f,g,j,Bg l a.size⟩
theorem PwS.grown {w0 w d:A5}{A X S b:Nat}{s:ByteArray}{e:Int}{q:Nat}{Z:List A0}{row:Option Nat}(h:PwS w0 A X S b s w e q Z)(c:w.grownBy d row)(hr:∀g,row=some g->S<g):PwS w0 A X S b s d e q Z:=by
 obtain⟨i,j,l,m,n⟩:=h.sep;have a:∀k,k<=S->d.heap[k]? =w.heap[k]?:=fun k a=>c.block k (by omega) (fun e=>by have:=hr k e.symm;omega);exact⟨⟨(a X (by omega)).trans h.cap.wrong,(a A (by omega)).trans h.cap.box,⟨(a b (by omega)).trans h.cap.rd.1,h.cap.rd.2⟩,h.cap.apart⟩,(a S (by omega)).trans h.sh,(a (A+1) (by omega)).trans h.res,
  ⟨c.os.trans h.low.os,c.tape.trans h.low.tape,c.output.trans h.low.output,Eg h.low.size c.size,fun k f o=>(a k (by omega)).trans (h.low.block k f o)⟩,
  i,j,l,m,Bg n c.size⟩
theorem PwS.drew {w0 w:A5}{A X S b:Nat}{s:ByteArray}{e:Int}{q:Nat}{Z:List A0}(h:PwS w0 A X S b s w e q Z):PwS w0 A X S b s w.drew e q Z:=h.grown (KW w none) (fun g h=>by cases h)
theorem PwS.at {w0 w:A5}{A X S b:Nat}{s:ByteArray}{e:Int}{q:Nat}{Z:List A0}(h:PwS w0 A X S b s w e q Z){i:Nat}{v:A0}(hv:Z[i]? =some v):w.cell? ⟨S,i,none⟩=some v:=AA h.sh hv
theorem PwS.free {w0 w:A5}{A X S b:Nat}{s:ByteArray}{e:Int}{q:Nat}{Z:List A0}(h:PwS w0 A X S b s w e q Z)(i:Nat):w.frozen? ⟨S,i,none⟩=false:=AZ h.sh
theorem Ty {w i:A5}{base e size n a b:Nat}{v:A0}{j:List A0}(h:w.ownsRow base e size v n j)(hm:Yb1 a b w i)(k:a<base)(l:b<base):i.ownsRow base e size v n j:=by
 refine⟨h.1,?_⟩;rcases h.2 with hn|⟨g,cap,d,rfl,f,c,rest⟩
 ·exact .inl hn
 ·refine .inr ⟨g,cap,d,rfl,f,?_,rest⟩;rw[hm.block g (Am.1 c).1 (by omega) (by omega)];exact c
def fB (l:List UInt8)(s:ByteArray)(p b:Nat)(w:A5)(e:Ending)(c:A5):Prop:=
 ∃(h:Shd) (a:Option Addr) (cap q:Nat),e=.returned (.tuple #[.agg (Bx h (.slice a h.supp.length cap) (.slice none 0 0) 0).toArray,.int .i64 (shk l p).2.2])/\
  ((shk l p).2.2=0->shk l p=(h,q,0))/\CA c a h.supp/\(∀x,a=some x->w.heap.size<=x.block)/\AI c b s q/\w.grownBy c (some b)
set_option maxRecDepth 100000 in
theorem iL (w:A5)(b:Nat)(s:ByteArray)(p:Nat)(hr:AI w b s p)(hs:s.size<=1099511627776):
  Calls prog 156 #[.pointer (some ⟨b,0,none⟩)] w (fB s.data.toList s p b w):=by
 have dg:∀(fn:Fn) (first cap:Array A0) (w:A5),(Instr.makeFunc fn first cap).run prog w=.ok (.func fn first cap) w:=fun _ _ _ _=>rfl;have c:=fun w hr=>sS w b s p hr hs;have ao:b<w.heap.size:=hr.lt;obtain⟨A,V⟩:=Ah w.heap.size;obtain⟨l,hl⟩:=Ah s.data.toList;have W:eS l p 0=0->OP l p=p+22+CN 0:=fun h=>by unfold OP;rw[Bc ((WW l p).trans h)];rfl
 rw[hl] at c ⊢;rw[WW] at c;obtain⟨Y,aa⟩:=Ah (eS l p 0);obtain⟨q0,ap⟩:=Ah (OP l p);rw[aa,ap] at c W;have cv:=Dp aa;have cw:=Dp W;have I:=Dp hl;clear aa W ap;obtain⟨wA,z⟩:=Ah ((w.alloc (.cells #[.pointer (some ⟨b,0,none⟩)] 54 (0,0))).alloc (.cells (Bx FK (.slice none 0 0) (.slice none 0 0) 0).toArray 39 (0,0)))
 have E:Below A w wA:=by rw[<-z,<-V];exact((Dq _ w).alloc (Ba _) _).alloc (by simp) _
 have bk:wA.heap.size=A+2:=by rw[<-z,<-V];simp
 have aq:wA.heap[A]? =some (.cells [.pointer (some ⟨b,0,none⟩)].toArray 54 (0,0)):=by rw[<-z,<-V];exact BW (heap_alloc_new w _)
 have ar:wA.heap[A+1]? =some (.cells (Bx FK (.slice none 0 0) (.slice none 0 0) 0).toArray 39 (0,0)):=by
  rw[<-z,<-V];have:=heap_alloc_new (w.alloc (.cells #[.pointer (some ⟨b,0,none⟩)] 54 (0,0))) (.cells (Bx FK (.slice none 0 0) (.slice none 0 0) 0).toArray 39 (0,0))
  simpa using this
 have au:AI wA b s p:=hr.below (V▸E);unfold Bx FK at z;have av:=Dp z;have cx:=Dp V;clear z hl hr;rw[V] at ao
 go_enter func156,ntmps156
 go_wp2_with fail
 rw[av.out];refine(c _ au).mono ?_;rintro e w1 ⟨rfl,ab,F⟩;have aw:=(F.block A (by omega) (by intro e;injection e with e;omega)).trans aq;have ax:=(F.block (A+1) (by omega) (by intro e;injection e with e;omega)).trans ar;obtain⟨X,hX⟩:=Ah w1.heap.size;have bl:A+1<X:=by have:=F.size;omega
 obtain⟨y0,B⟩:=Ah ((w1.alloc (.cells #[.int .i64 Y] 27 (0,0))).alloc (.cells (Bx FK (.slice none 0 0) (.slice none 0 0) 0).toArray 39 (0,0)));have G:Below X w1 y0:=by rw[<-B,<-hX];exact((Dq _ w1).alloc (Ba _) _).alloc (by simp) _
 have bm:PwS w A X (X+1) b s y0 Y q0 (Bx FK (.slice none 0 0) (.slice none 0 0) 0):=by
  refine⟨⟨by rw[<-B,<-hX];exact BW (heap_alloc_new w1 _),(G.block A (by omega)).trans aw,⟨(G.block b (by omega)).trans ab.1,ab.2⟩,by omega,by omega,by omega⟩,?_,(G.block (A+1) (by omega)).trans ax,?_,cx.out,ao,bl,by omega,by rw[<-B];simp;omega⟩
  ·rw[<-B,<-hX];have:=heap_alloc_new (w1.alloc (.cells #[.int .i64 Y] 27 (0,0))) (.cells (Bx FK (.slice none 0 0) (.slice none 0 0) 0).toArray 39 (0,0))
   simpa using this
  ·exact AR (AR (BZ (cx.out▸E) _) F) (BZ (hX▸G) _)
 unfold Bx FK at B;have dh:=Dp hX;have ay:=Dp B;clear B G aw ax ab F aq ar E bk au c av hX
 go_wp2_with fail
 rw[dh.out,ay.out];refine(KP _ X A b s Y q0 8 bm.cap).mono ?_;rintro r0 z0 ⟨rfl,hc,hm⟩;rw[I.out] at hc ⊢;have bn:=MY cv.out cw.out 8 rfl (by decide);generalize FE l Y q0 8=v0 at *;generalize FG l Y q0 8=f0 at *;generalize FH l Y q0 8=q1 at *;have J:=bm.move hc hm;clear hc hm bm;have t:=J.at (i:=0) rfl;have y:=J.free 0;have az:=J.set 0 (.int .i64 v0)
 obtain⟨e1,d⟩:=Ah (eS l p 1);have f:=(bn.free (S4 (by omega))).symm;rw[d] at f;subst f;have ac:=Dp d;have bo:=Dp fun h=>bn.done (d.trans h);have bf:=Dp fun h=>(bo.out h).2.2;have bp:=az;clear d;clear bn cv cw J az
 go_wp2_with fail
 try clear t y
 refine(KP _ X A b s e1 q1 2 bp.cap).mono ?_;rintro r1 z1 ⟨rfl,hc,hm⟩;rw[I.out] at hc ⊢;have bq:=MY ac.out bf.out 2 rfl (by decide);generalize FE l e1 q1 2=v1 at *;generalize FG l e1 q1 2=f1 at *;generalize FH l e1 q1 2=q2 at *;have ae:=bp.move hc hm;clear hc hm bp
 go_wp2_with fail
 try clear t y
 refine(OS _ X A b s f1 q2 (v1==2) 5 ae.cap).mono ?_;rintro r1 u1 ⟨rfl,hc,hm⟩;rw[bq.test (v1==2) 5 (dU _ _)] at hc;obtain⟨e2,d⟩:=Ah (eS l p 2);rw[d] at hc;have af:=Dp d;have br:=Dp fun h=>bq.done (d.trans h);have cy:=Dp fun h=>(br.out h).2.2;have bs:=ae.move hc hm;clear d hc hm ae bq ac bf
 go_wp2_with fail
 try clear t y
 refine(KP _ X A b s e2 q2 3 bs.cap).mono ?_;rintro r2 z2 ⟨rfl,hc,hm⟩;rw[I.out] at hc ⊢;have bt:=MY af.out cy.out 3 rfl (by decide);generalize FE l e2 q2 3=v2 at *;generalize FG l e2 q2 3=f2 at *;generalize FH l e2 q2 3=q3 at *;have M:=bs.move hc hm;clear hc hm bs;have t:=M.at (i:=1) rfl;have y:=M.free 1;have a0:=M.set 1 (.int .i64 v2);obtain⟨e3,d⟩:=Ah (eS l p 3)
 have f:=(bt.free (S4 (by omega))).symm;rw[d] at f;subst f;have bg:=Dp d;have bu:=Dp fun h=>bt.done (d.trans h);have bh:=Dp fun h=>(bu.out h).2.2;have bv:=a0;clear d;clear bt af cy M a0
 go_wp2_with fail
 try clear t y
 refine(KP _ X A b s e3 q3 3 bv.cap).mono ?_;rintro r3 z3 ⟨rfl,hc,hm⟩;rw[I.out] at hc ⊢;have bw:=MY bg.out bh.out 3 rfl (by decide);generalize FE l e3 q3 3=N at *;generalize FG l e3 q3 3=f3 at *;generalize FH l e3 q3 3=q4 at *;have O:=bv.move hc hm;clear hc hm bv;have t:=O.at (i:=2) rfl;have y:=O.free 2;have ag:=O.set 2 (.int .i64 N)
 go_wp2_with fail
 try clear t y
 refine(Xi N _).mono ?_;rintro r u ⟨rfl,rfl⟩
 go_wp2_with fail
 refine(OS _ X A b s f3 q4 (DV N) 5 ag.cap).mono ?_;rintro r3 u3 ⟨rfl,hc,hm⟩;rw[bw.test (DV N) 5 (iY _ _)] at hc;obtain⟨e4,d⟩:=Ah (eS l p 4);rw[d] at hc;have cz:=Dp d;have bx:=Dp fun h=>bw.done (d.trans h);have c1:=Dp fun h=>(bx.out h).2.2;have bz:=ag.move hc hm;clear d hc hm ag O bw bg bh
 go_wp2_with fail
 try clear t y
 refine(KP _ X A b s e4 q4 1 bz.cap).mono ?_;rintro r4 z4 ⟨rfl,hc,hm⟩;rw[I.out] at hc ⊢;have b0:=MY cz.out c1.out 1 rfl (by decide);generalize FE l e4 q4 1=v4 at *;generalize FG l e4 q4 1=f4 at *;generalize FH l e4 q4 1=q5 at *;have P:=bz.move hc hm;clear hc hm bz;have t:=P.at (i:=3) rfl;have y:=P.free 3;have a1:=P.set 3 (.bool (v4==1))
 go_wp2_with fail
 refine(Vz true _).mono ?_;rintro r u ⟨rfl,rfl⟩;rw[Bc rfl];obtain⟨e5,d⟩:=Ah (eS l p 5);have f:=(b0.free (S4 (by omega))).symm;rw[d] at f;subst f;have c2:=Dp d;have b1:=Dp fun h=>b0.done (d.trans h);have c3:=Dp fun h=>(b1.out h).2.2;have b2:=a1;clear d;clear b0 cz c1 P a1
 go_wp2_with fail
 try clear t y
 refine(KP _ X A b s e5 q5 4 b2.cap).mono ?_;rintro r5 z5 ⟨rfl,hc,hm⟩;rw[I.out] at hc ⊢;have b3:=MY c2.out c3.out 4 rfl (by decide);generalize FE l e5 q5 4=v5 at *;generalize FG l e5 q5 4=f5 at *;generalize FH l e5 q5 4=q6 at *;have ah:=b2.move hc hm;clear hc hm b2
 go_wp2_with fail
 try clear t y
 refine(OS _ X A b s f5 q6 (v5==0) 6 ah.cap).mono ?_;rintro r5 u5 ⟨rfl,hc,hm⟩;rw[b3.test (v5==0) 6 (Xb (.inl rfl) _ _)] at hc;obtain⟨e6,d⟩:=Ah (eS l p 6);rw[d] at hc;have c4:=Dp d;have b5:=Dp fun h=>b3.done (d.trans h);have c5:=Dp fun h=>(b5.out h).2.2;have b6:=ah.move hc hm;clear d hc hm ah b3 c2 c3
 go_wp2_with fail
 try clear t y
 refine(KP _ X A b s e6 q6 5 b6.cap).mono ?_;rintro r6 z6 ⟨rfl,hc,hm⟩;rw[I.out] at hc ⊢;have b7:=MY c4.out c5.out 5 rfl (by decide);generalize FE l e6 q6 5=T at *;generalize FG l e6 q6 5=f6 at *;generalize FH l e6 q6 5=q7 at *;have Q:=b6.move hc hm;clear hc hm b6;have t:=Q.at (i:=4) rfl;have y:=Q.free 4;have ai:=Q.set 4 (.int .i64 T)
 go_wp2_with fail
 try clear t y
 refine(OS _ X A b s f6 q7 (decide (1<=T)) 9 ai.cap).mono ?_;rintro r6 u6 ⟨rfl,hc,hm⟩;rw[b7.test (decide (1<=T)) 9 (Qbz _ _)] at hc;obtain⟨e7,d⟩:=Ah (eS l p 7);rw[d] at hc;have c6:=Dp d;have b8:=Dp fun h=>b7.done (d.trans h);have c7:=Dp fun h=>(b8.out h).2.2;have b9:=ai.move hc hm;clear d hc hm ai Q b7 c4 c5
 go_wp2_with fail
 try clear t y
 refine(KP _ X A b s e7 q7 1 b9.cap).mono ?_;rintro r7 z7 ⟨rfl,hc,hm⟩;rw[I.out] at hc ⊢;have ca:=MY c6.out c7.out 1 rfl (by decide);generalize FE l e7 q7 1=v7 at *;generalize FG l e7 q7 1=f7 at *;generalize FH l e7 q7 1=q8 at *;have aj:=b9.move hc hm;clear hc hm b9
 go_wp2_with fail
 try clear t y
 refine(OS _ X A b s f7 q8 (v7==0) 6 aj.cap).mono ?_;rintro r7 u7 ⟨rfl,hc,hm⟩;rw[ca.test (v7==0) 6 (Xb (.inr rfl) _ _)] at hc;obtain⟨e8,d⟩:=Ah (eS l p 8);rw[d] at hc;have c8:=Dp d;have cb:=Dp fun h=>ca.done (d.trans h);have c9:=Dp fun h=>(cb.out h).2.2;have cc:=aj.move hc hm;clear d hc hm aj ca c6 c7;obtain⟨b4,o⟩:=Ah (v4==1);rw[o] at cc
 have da:PwS w A X (X+1) b s u7 e8 q8 (Bx ⟨v0,v2,N,b4,T,[]⟩ (.slice none 0 0) (.slice none 0 0) 0):=cc;have db:=LX.start c8.out (fun h=>c9.out h);obtain⟨i0,hi,cd,ce,cf⟩:=Dv Qi6;have a2:u7.ownsRow (X+2) 3 1 (.slice none 0 0) ([]:List Int).length (NM []):=Dn _ _ _ _;have di:=Dp o
 have dj:Hid (eS l p 8=0->∀L,LI l (p+22) L=⟨v0,v2,N,b4,T,L⟩):=Dp fun h8 L=>by
  have g7:=(cb.out (c8.out.symm.trans h8)).1;obtain⟨g6,x6,-⟩:=b8.out g7;have g5:=(b5.out g6).1;obtain⟨g4,x4,-⟩:=b1.out g5;obtain⟨g3,x3,-⟩:=bx.out g4;obtain⟨g2,x2,-⟩:=bu.out g3;have g1:=(br.out g2).1;obtain⟨-,x0,-⟩:=bo.out g1;unfold LI;rw[<-o,x0,x2,x3,x4,x6]
  congr 1
  rw[I6];simp only[Bm];omega
 clear o cc c9 bo br bu bx b1 b5 b8 cb ay
 go_wp2
 go_loopw [55] (fun _ wr=>∃(e:Int) (q:Nat) (L:List Int) (v:A0),PwS w A X (X+1) b s wr e q (Bx ⟨v0,v2,N,b4,T,[]⟩ v (.slice none 0 0) 0)/\wr.ownsRow (X+2) 3 1 v L.length (NM L)/\LX l p e q L) (fun _ wr=>match wr.cell? ⟨X+1,5,none⟩ with|some (.slice _ n _)=>10-n|_=>0)
 case atStart=>exact⟨e8,q8,[],_,da,a2,db⟩
 case round=>
  clear da a2 db;obtain⟨e,q,L,v,an,hu,hR⟩:=hrel;obtain⟨pa,cap,rfl,a3⟩:=UL rfl hu;obtain⟨x1,x2⟩:=hR.bit
  go_wp2_with fail
  refine(KP _ X A b s e q 1 an.cap).mono ?_;rintro r z0 ⟨rfl,hc,hm⟩;rw[I.out] at hc ⊢;have D:=an.move hc hm;have H:=Ty hu hm (by omega) (by have:=an.sep;omega);have a4:=an.at (i:=5) rfl;generalize FE l e q 1=cg at *;generalize FG l e q 1=ac at *;generalize FH l e q 1=bf at *;by_cases hV:cg=1
  ·obtain⟨rfl,rfl,rfl,y1,y2⟩:=x2 hV;obtain⟨dk,ch⟩:=hR.byte y1 y2;have d1:(cg==1)=true:=by rw[hV];rfl
   have k5:=D.at (i:=5) rfl;clear x1 x2 hc hm hu hR hV an
   go_wp2_with fail
   clear k5;refine(OS _ X A b s 0 (q+1) (decide ((L.length:Int)<8)) 13 D.cap).mono ?_;rintro r u1 ⟨rfl,hc,hm⟩;have dc:=D.move hc hm;have a5:=Ty H hm (by omega) (by have:=D.sep;omega);have dl:=D.sep;generalize JR 0 (decide ((L.length:Int)<8)) 13=af at *;have bi:=dc.drew;have k5:=bi.at (i:=5) rfl;clear D H hc hm a3 d1 y1 y2 dc
   go_wp2
   refine Hp (by kernel_rfl) ?_;change wpAny _ _ _ _ _ _ _ (World.drew _);refine EG 0 (some 63) (v:=.pointer (some ⟨X+1,5,none⟩)) rfl rfl (by kernel_rfl) (by kernel_rfl) (by kernel_rfl) (fun _ _ _ h=>h) (Or.inl ⟨by kernel_rfl,?_⟩) ?_
   ·(intro x;go_simp;try with_reducible rfl)
   try simp only[A1]
   refine EG 2 (some 65) (v:=.func (.func 174) #[] #[.pointer (some ⟨X,0,none⟩),.pointer (some ⟨A,0,none⟩)]) rfl rfl (by kernel_rfl) (by kernel_rfl) (by kernel_rfl) (fun _ _ _ h=>h) (Or.inl ⟨by kernel_rfl,?_⟩) ?_
   ·(intro x;go_simp;try with_reducible rfl)
   try simp only[A1]
   refine Zo (S:=fun x=>x.cell? ⟨X+1,5,none⟩=some (.slice pa L.length cap)) 1 3 4 (some 64) (v:=.slice pa L.length cap) rfl rfl rfl rfl (by kernel_rfl) (by kernel_rfl) (by kernel_rfl) (fun _ _ _ h=>h) (by kernel_rfl) (by kernel_rfl) (by kernel_rfl) (by kernel_rfl) (by kernel_rfl) (by decide) (by decide) k5 (Or.inl ⟨by kernel_rfl,?_⟩) ?_
   ·(intro x hx;have c0:=(show _ from hx);go_simp)
   try simp only[A1]
   refine wpOp_step rfl (fun K C=>?_);have a6:=Dp C;clear C
   go_simp
   go_wp2_with fail
   refine(KP _ X A b s af (q+1) 8 bi.cap).mono ?_;rintro r z2 ⟨rfl,hc,hm⟩;rw[I.out] at hc ⊢;have bj:=bi.move hc hm;have a7:=Ty a5.drew hm (by omega) (by omega);have dm:=bj.sep;generalize FE l af (q+1) 8=U at *;generalize FG l af (q+1) 8=bg at *;generalize FH l af (q+1) 8=bh at *;refine a6.out _ _ ⟨bj.at (i:=5) rfl,?_⟩;clear a6 K k5 hc hm bi a5;refine wpOp_step rfl (fun K C=>?_)
   have a6:=Dp C;clear C
   go_simp
   have ci:=bj.grown (Hu z2 (.cells #[.int .i64 U] 3 (0,0)) none) (fun g h=>by cases h);refine a6.out _ _ ⟨ci.at (i:=5) rfl,?_⟩;clear a6 K;have o:=a7.alloc (.cells #[.int .i64 U] 3 (0,0));have a8:(z2.alloc (.cells #[.int .i64 U] 3 (0,0))).cell? ⟨z2.heap.size,0,none⟩=some (.int .i64 U):=AA (cs:=[.int .i64 U]) (heap_alloc_new z2 _) rfl
   have a9:X+2<=(z2.alloc (.cells #[.int .i64 U] 3 (0,0))).heap.size:=by simp;omega
   refine Pg (rs:=[5]) (by kernel_rfl) (by simp) ?_;refine Pd rfl (fun K C=>?_) Pf;refine(Bc (by kernel_rfl)).mpr ?_;refine iV rfl underlying36 hi cd rfl ce cf rfl o rfl a8 (by omega) a9 ?_;intro dn w4 ak cj;obtain⟨pa2,cap2,ck,-⟩:=UL (l:=L++[U]) (n:=L.length+1) (by simp) (by rw[ZM];exact ak);subst ck
   have cl:=ci.grown cj (fun g hg=>by have:=NS o g hg;omega);refine C _ _ ?_;clear C K ci bj o a8 a9 a7;have k5:=cl.at (i:=5) rfl;have k6:=cl.free 5;have dd:=cl.set 5 (.slice pa2 (L.length+1) cap2);refine EG 6 (some 69) (v:=.pointer (some ⟨X+1,5,none⟩)) rfl rfl (by kernel_rfl) (by kernel_rfl) (by kernel_rfl) (fun _ _ _ h=>h) (Or.inl ⟨by kernel_rfl,?_⟩) ?_
   ·(intro x;go_simp;try with_reducible rfl)
   try simp only[Act.put]
   refine Pg (rs:=[7]) (by kernel_rfl) (by simp) ?_;refine Pd rfl (fun K C=>?_) Pf
   go_simp
   refine C _ _ ?_;clear C K k5 k6;refine wpAny_done (by kernel_rfl) ?_ _;have cm:=ak.kept (DM w4 ⟨X+1,5,none⟩ (.slice pa2 (L.length+1) cap2)) (by cases hv:(Value.slice pa2 (L.length+1) cap2).ownBlock with|none=>exact .inl rfl|some g=>exact .inr (by have:=NS ak g hv;show some g≠some (X+1);intro e;injection e with e;omega));have cn:=dd.at (i:=5) rfl
   go_wp2
   go_roundw
   case rel=>exact⟨bg,bh,L++[U],_,dd,by rw[B9,ZM];exact cm,ch⟩
   case measure=>
    rw[a4,cn];simp only;omega
  ·have hE:=x1 hV;have d1:(cg==1)=false:=by rw[Fg];exact hV
   clear x1 x2 hc hm hu hR hV an a3 a4;obtain⟨Z,hZ⟩:=Ah ((Bx ⟨v0,v2,N,b4,T,[]⟩ (.slice pa L.length cap) (.slice none 0 0) 0).toArray);have al:(prog.info? 39).map (·.size)=some Z.size:=hZ▸Wd _ _ _ _;have ba:Z.all (·.oneCell')=true:=hZ▸RA _ _ _ _ _ _ _ _;have co:(Bx FK (.slice none 0 0) (.slice none 0 0) 0).toArray.size=Z.size:=by rw[<-hZ];rfl
   have bb:z0.heap[X+1]? =some (.cells Z 39 (0,0)):=hZ▸D.sh;have bc:z0.cell? ⟨X,0,none⟩=some (.int .i64 ac):=AA D.cap.wrong rfl;have dp:=Dp hZ;have de:=D.sep;clear hZ
   go_wp2
   refine Pb (S:=(fun x=>x.heap[X+1]? =some (.cells Z 39 (0,0))/\x.cell? ⟨X,0,none⟩=some (.int .i64 ac))) (by kernel_rfl) ⟨bb,bc⟩ (fun hH=>?_)
   refine C8 0 (some 70) (v:=.agg Z) rfl rfl (by kernel_rfl) (by kernel_rfl) (by kernel_rfl) (fun _ _ _ h=>h) hH (Or.inl ⟨by kernel_rfl,fun x hx=>GA (ty:=39) (x:=.tmp 7) (ad:=⟨X+1,0,none⟩) (by kernel_rfl) (by kernel_rfl) (As x (X+1) _ _ Z (0,0) _ hx.1 Ox rfl al)⟩) ?_
   try simp only[A1]
   refine FV 1 (some 71) (v:=.int .i64 ac) rfl rfl hH (by kernel_rfl) (fun x hx=>by have c0:=hx.2;go_simp) ?_
   try simp only[A1]
   refine Pa (rs:=[2]) (by kernel_rfl) (by simp) ?_;refine Oy rfl (fun K C=>?_) Oz;refine(Bc (by kernel_rfl)).mpr ?_;refine Pe 39 _ _ rfl (A+1) Z rfl rfl 39 _ D.drew.res al co ba ?_;obtain⟨w5,R⟩:=Ah (z0.drew.setRow (A+1) Z);have cp:w5.heap[A+1]? =some (.cells Z 39 (0,0)):=by rw[<-R];exact Et _ _ _ _ _ _ D.drew.res
   have m:z0.drew.grownBy w5 (some (A+1)):=by rw[<-R];exact⟨rfl,rfl,rfl,by simp,fun k _ hk=>Es _ _ _ _ (by intro e;exact hk (by rw[e]))⟩
   rw[R];have cq:(fun x=>x.heap[X+1]? =some (.cells Z 39 (0,0))/\x.cell? ⟨X,0,none⟩=some (.int .i64 ac)) w5:=⟨(m.block (X+1) (by show X+1<z0.heap.size;omega) (by simp;omega)).trans bb,(G3 (a:=⟨X,0,none⟩) (m.block X (by show X<z0.heap.size;omega) (by simp;omega))).trans bc⟩;refine C.out _ _ cq (fun cr=>?_);clear C K hH R;refine AM 3 (some 3) cr ?_
   try simp only[Act.put]
   refine Pc (by kernel_rfl) ?_ _
   go_wp2
   refine H5 (BQ rfl _ _ (A+1) 39 _ (0,0) _ rfl cp Ox rfl al) rfl ?_;have ct:=H.drew.kept m (by cases hv:(Value.slice pa L.length cap).ownBlock with|none=>exact .inl rfl|some g=>exact .inr (by have:=NS H g hv;show some g≠some (A+1);intro e;injection e with e;omega));obtain⟨dq,df,cu,bd⟩:=UL rfl ct;injection cu with e1 e2 e3;subst e1
   have j:=D.drew.low;have am:=D.drew.cap.rd;refine⟨⟨v0,v2,N,b4,T,L⟩,pa,cap,bf,?_,fun h0=>?_,bd,fun x hx=>?_,⟨(m.block b am.lt (by simp;omega)).trans am.1,am.2⟩,m.os.trans j.os,m.tape.trans j.tape,m.output.trans j.output,Eg j.size m.size,fun k hk hn=>(m.block k (Bg hk j.size) (by simp;omega)).trans (j.block k hk hn)⟩
   ·rw[hE.1,<-dp.out];rfl
   ·rw[hE.1] at h0;obtain⟨g1,g2⟩:=hE.2 h0;rw[g2,dj.out g1 L]
   ·have:=NS H x.block (by rw[hx];rfl);omega
theorem tJ {l:List UInt8}{p:Nat}(h:(shk l p).2.2≠0):(shk l p).1=FK/\(shk l p).2.1=p:=by
 by_cases h1:D7 l p=0
 ·by_cases h2:upS l (p+22) 8=0
  ·by_cases h3:(CC l 8 (p+49)).2.2=0
   ·rw[QV h1 h2 h3] at h;exact absurd rfl h
   ·rw[TR h1 h2 h3];exact⟨rfl,rfl⟩
  ·rw[Ue h1 h2];exact⟨rfl,rfl⟩
 ·rw[Rs h1];exact⟨rfl,rfl⟩
def Zb (l:List UInt8)(s:ByteArray)(p b:Nat)(w:A5)(e:Ending)(c:A5):Prop:=
 ∃(a:Option Addr) (cap:Nat),e=.returned (.tuple #[.agg (Bx (shk l p).1 (.slice a (shk l p).1.supp.length cap) (.slice none 0 0) 0).toArray,.int .i64 (shk l p).2.2])/\
  CA c a (shk l p).1.supp/\(∀x,a=some x->w.heap.size<=x.block)/\AI c b s (shk l p).2.1/\w.grownBy c (some b)
set_option maxRecDepth 100000 in
theorem mL (w:A5)(b:Nat)(s:ByteArray)(p:Nat)(hr:AI w b s p)(hs:s.size<=1099511627776):
  Calls prog 126 #[.pointer (some ⟨b,0,none⟩)] w (Zb s.data.toList s p b w):=by
 have c:=fun w hr=>iL w b s p hr hs;have hp:=hr.2.1;have ae:b<w.heap.size:=hr.lt;obtain⟨A,I⟩:=Ah w.heap.size;obtain⟨wA,m⟩:=Ah (w.alloc (.cells #[.int .i64 0,.int .i64 0,.int .i64 0,.bool false,.int .i64 0,.slice none 0 0,.slice none 0 0,.int .i64 0] 39 (0,0)));have n:Below A w wA:=by rw[<-m,<-I];exact(Dq _ w).alloc (Ba _) _
 have af:wA.heap.size=A+1:=by rw[<-m,<-I];simp
 have R:wA.heap[A]? =some (.cells #[.int .i64 0,.int .i64 0,.int .i64 0,.bool false,.int .i64 0,.slice none 0 0,.slice none 0 0,.int .i64 0] 39 (0,0)):=by rw[<-m,<-I];exact heap_alloc_new w _
 have J:AI wA b s p:=hr.below (I▸n);have bad:=fun h=>tJ (l:=s.data.toList) (p:=p) h;obtain⟨l,hl⟩:=Ah s.data.toList;rw[hl] at c bad ⊢;have ag:=Dp m;have ad:=Dp I;rw[I] at ae;clear m hr hl
 go_enter func126,ntmps126
 go_wp2_with fail
 rw[ag.out];refine(ED _ _ _ _ J).mono ?_;rintro e u ⟨rfl,rfl⟩
 go_wp2_with fail
 refine(c _ J).mono ?_;rintro e S ⟨h,a,cap,q,rfl,B,T,U,V,D⟩;clear c J;obtain⟨f,hf⟩:=Ah ((shk l p).2.2);rw[hf] at B bad ⊢;have al:=Dp hf;obtain⟨Z,P⟩:=Ah ((Bx h (.slice a h.supp.length cap) (.slice none 0 0) 0).toArray);rw[P];have r:(prog.info? 39).map (·.size)=some Z.size:=P▸Wd _ _ _ _;have t:Z.all (·.oneCell')=true:=P▸RA _ _ _ _ _ _ _ _
 have K:(#[.int .i64 0,.int .i64 0,.int .i64 0,.bool false,.int .i64 0,.slice none 0 0,.slice none 0 0,.int .i64 0]:Array A0).size=Z.size:=by rw[<-P];rfl
 have W:(prog.info? 39).map (·.size)=some (#[.int .i64 0,.int .i64 0,.int .i64 0,.bool false,.int .i64 0,.slice none 0 0,.slice none 0 0,.int .i64 0]:Array A0).size:=Vw;have ah:(#[.int .i64 0,.int .i64 0,.int .i64 0,.bool false,.int .i64 0,.slice none 0 0,.slice none 0 0,.int .i64 0]:Array A0).all (·.oneCell')=true:=by kernel_rfl
 obtain⟨C,F⟩:=Ah S.heap.size;obtain⟨L,v⟩:=Ah (S.alloc (.cells Z 39 (0,0)));have am:A+1<=C:=by have:=D.size;omega
 have y:Below C S L:=by rw[<-v,<-F];exact(Dq _ S).alloc (Ba _) _
 have X:L.heap[C]? =some (.cells Z 39 (0,0)):=by rw[<-v,<-F];exact heap_alloc_new S _
 have M:L.heap[A]? =some (.cells #[.int .i64 0,.int .i64 0,.int .i64 0,.bool false,.int .i64 0,.slice none 0 0,.slice none 0 0,.int .i64 0] 39 (0,0)):=(y.block A (by omega)).trans ((D.block A (by omega) (by simp;omega)).trans R);have z:AI L b s q:=V.below (F▸y);have G:CA L a h.supp:=T.below (F▸y)
 have g:w.grownBy L (some b):=AR (AR (BZ (ad.out▸n) _) D) (BZ (F▸y) _);have an:C<L.heap.size:=by rw[<-v,<-F];simp
 have ao:=Dp P;have aj:=Dp F;have Y:=Dp v;clear hf R P F v T V D y n I;by_cases h0:f=0
 ·subst h0;have H:=B rfl;have ai:=Dp H;clear B bad H
  go_wp2_with (first|(with_reducible refine DA rfl 39 _ _ rfl Z _ 39 rfl rfl r K t ?_;rw[Y.out,aj.out])|(with_reducible refine Ow rfl 39 _ rfl C rfl 39 Z (0,0) _ X Ox rfl r ?_)|(with_reducible refine B4 rfl 39 _ _ rfl A Z _ rfl rfl 39 M r K t ?_;intro w5 N d))
  refine H5 (BQ rfl _ _ A 39 _ (0,0) _ rfl N Ox rfl r) rfl ?_;have aa:CA w5 a h.supp:=by
   rcases G with k|⟨x,o,rfl,ab,k⟩
   ·exact .inl k
   ·have Q:=U ⟨x,o,none⟩ rfl;have Q:A+1<=x:=by rw[<-af];exact Q
    exact .inr ⟨x,o,rfl,Bg ab d.size,fun i hi=>(G3 (a:=⟨x,o+i,none⟩) (d.block x ab (by simp;omega))).trans (k i hi)⟩
  refine⟨a,cap,?_,?_,fun x Q=>?_,?_,?_⟩
  ·rw[ai.out,ao.out];rfl
  ·rw[ai.out];exact aa
  ·have:=U x Q;have:=ad.out;omega
  ·rw[ai.out];exact⟨(d.block b z.lt (by simp;omega)).trans z.1,z.2⟩
  ·exact⟨d.os.trans g.os,d.tape.trans g.tape,d.output.trans g.output,Eg g.size d.size,fun k H hn=>(d.block k (Bg H g.size) (by have:=ad.out;simp;omega)).trans (g.block k H hn)⟩
 ·have d1:(f != 0)=true:=by simpa using h0
  obtain⟨b1,b2⟩:=bad h0;have ak:=Dp b1;have ap:=Dp b2;clear B bad b1 b2 G h0
  go_wp2_with (with_reducible refine DA rfl 39 _ _ rfl Z _ 39 rfl rfl r K t ?_;rw[Y.out,aj.out])
  refine(GH _ _ _ _ (p:Int) z (by omega) (by omega)).mono ?_;rintro e w3 ⟨rfl,E,O⟩;rw[Dr] at E;have ac:=(O.block A (by omega) (by simp;omega)).trans M;have j:=AR g O;clear M O g z X
  go_wp2_with (with_reducible refine B4 rfl 39 _ _ rfl A _ _ rfl rfl 39 ac W rfl ah ?_;intro w5 N d)
  refine H5 (BQ rfl _ _ A 39 _ (0,0) _ rfl N Ox rfl W) rfl ?_;refine⟨none,0,?_,?_,(fun x Q=>by cases Q),?_,?_⟩
  ·rw[ak.out,al.out];rfl
  ·rw[ak.out];exact CA.nil _ _
  ·rw[ap.out];exact⟨(d.block b E.lt (by simp;omega)).trans E.1,E.2⟩
  ·exact⟨d.os.trans j.os,d.tape.trans j.tape,d.output.trans j.output,Eg j.size d.size,fun k H hn=>(d.block k (Bg H j.size) (by have:=ad.out;simp;omega)).trans (j.block k H hn)⟩
end Go.Proofs.YtjjmalchelniiaaGreatDoor