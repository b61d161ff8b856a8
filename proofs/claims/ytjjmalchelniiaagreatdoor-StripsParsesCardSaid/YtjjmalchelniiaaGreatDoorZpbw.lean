/- No condition. -/
import Derived.Test.YtjjmalchelniiaaGreatDoorZpa
import Derived.Test.YtjjmalchelniiaaGreatDoorZpi
import Derived.Test.YtjjmalchelniiaaGreatDoorZpl
import Derived.Test.YtjjmalchelniiaaGreatDoorZpn
import Derived.Test.YtjjmalchelniiaaGreatDoorZpx
import Derived.Test.YtjjmalchelniiaaGreatDoorZpz
open Go.Proofs.Tryz
open Go renaming World->A5,Value->A0,Ending->Ae,Calls->A9
set_option maxHeartbeats 16000000
namespace Go.Proofs.YtjjmalchelniiaaGreatDoor
open Go.RowKit Go.Lib
theorem Wfy{p:Prop}(h:p:=by
 unfold BX;cases hv:DS (v:Int) with
 |false=>rw[Bb sV,Ba sY]
 |true=>rw[Ba sV,Ba sX,Ba sX,Bb rfl]):p:=h
theorem Wfx{p:Prop}(h:p:=by
 have b6:((j:Int)==6)=false:=uC;by_cases o:v=0
 ·have N:=Dm (ac.out (P.trans (D.trans (Bb o))));have dv:((v:Int) != 0)=false:=by rw[o];rfl
  clear ab ac P D z o J
  exact Wft
 ·have K:=Dm (ab.out 6 (P.trans (D.trans (Ba o))) sY);have dv:((v:Int) != 0)=true:=uF;clear ab ac P D z o J
  exact Wfu):p:=h
theorem Wfw{p:Prop}(h:p:=by
 go_enter func64,ntmps64
 go_wp2_with fail
 rw[a2.out,b2.out];refine(cM _).mono ?_;rintro e u ⟨rfl,rfl⟩
 go_wp2_with (first|(with_reducible refine Pl rfl 39 _ rfl (A+1) rfl 39 Y (0,0) _ Q.zs Pk rfl b ?_)|(with_reducible refine AK rfl 39 _ _ rfl A Y Y rfl rfl 39 Q.res b rfl I ?_;intro w5 r d))
 refine Hb (B0 rfl _ _ A 39 _ (0,0) _ rfl r Pk rfl b) rfl ?_;exact JO (by rw[K.out,bl.out]) an.out rfl ((Q.low).grown d Wa0 Wav)):p:=h
theorem Wfv{p:Prop}(h:p:=by
 go_wp2_with (first|(with_reducible refine Pl rfl 39 _ rfl (A+1) rfl 39 Y (0,0) _ O.q.zs Pk rfl b ?_)|(with_reducible refine AK rfl 39 _ _ rfl A Y Y rfl rfl 39 O.q.res b rfl I ?_;intro w5 r d))
 refine Hb (B0 rfl _ _ A 39 _ (0,0) _ rfl r Pk rfl b) rfl ?_;exact JO K.out an.out rfl ((O.q.low).grown d Waz Wau)):p:=h
theorem Wfu{p:Prop}(h:p:=by
 go_wp2_with (first|(with_reducible refine Pl rfl 39 _ rfl (A+1) rfl 39 Y (0,0) _ y.q.zs Pk rfl b ?_)|(with_reducible refine AK rfl 39 _ _ rfl A Y Y rfl rfl 39 y.q.res b rfl I ?_;intro w5 r d))
 refine Hb (B0 rfl _ _ A 39 _ (0,0) _ rfl r Pk rfl b) rfl ?_;exact JO K.out an.out rfl ((y.q.low).grown d Wat Was)):p:=h
theorem Wft{p:Prop}(h:p:=by
 go_wp2_with (at_builtin;refine OM (v:=u12) (n:=j) (sl:=.tmp 101) (x:=.tmp 103) (K:=wr.heap.size) (c:=1) (y0:=(v:Int)) rfl rfl Ps hi ae rfl af ag ?d5 (E.alloc _) ?d4 ?d1 ?d2 ?d3 ?_;(case d5=>kernel_rfl);(case d4=>kernel_rfl);(case d1=>go_cell);(case d2=>omega);(case d3=>(have:=y.lt;simp;omega));intro v2 w2 G hg4;have aa:=(y.grown (Hk _ (.cells #[.int .i64 (v:Int)] 3 (0,0)) none) (fun g h=>uA)).grown hg4 (fun g hg=>War);have kw:=bh.out _ aa;clear hg4 E)
 go_roundw
 case rel=>exact⟨j+1,T+n,sX,tP,tP,ao,ah,Wax,aa,N⟩
 case measure=>simp[RowKit.intOf];omega):p:=h
theorem Waq{p:Prop}(h:p:=by go_simp;try with_reducible rfl):p:=h
theorem War{p:Prop}(h:p:=by have:=FT (E.alloc (.cells #[.int .i64 (v:Int)] 3 (0,0))) g hg;omega):p:=h
theorem Was{p:Prop}(h:p:=by intro k hk;injection hk with hk;have:=(y.q.sep).1;omega):p:=h
theorem Wat{p:Prop}(h:p:=by have:=(y.q.sep).1;have:=(y.q.sep).2;omega):p:=h
theorem Wau{p:Prop}(h:p:=by intro k hk;injection hk with hk;have:=(O.q.sep).1;omega):p:=h
theorem Wav{p:Prop}(h:p:=by intro k hk;injection hk with hk;have:=(Q.sep).1;omega):p:=h
theorem Waw{p:Prop}(h:p:=by have:=X.out;simp;omega):p:=h
theorem Wax{p:Prop}(h:p:=by rw[ap.out,KX];exact G):p:=h
theorem Waz{p:Prop}(h:p:=by have:=(O.q.sep).1;have:=(O.q.sep).2;omega):p:=h
theorem Wa0{p:Prop}(h:p:=by have:=(Q.sep).1;have:=(Q.sep).2;omega):p:=h
theorem Wa1{p:Prop}(h:p:=by rw[<-hZ];kernel_rfl):p:=h
abbrev Pk:=@underlying39
abbrev Pl:=@wpList_load_row
abbrev Pm:=@AllReadyH.cons
abbrev Pn:=@AllReadyH.nil
abbrev Po:=@wpAnyH_ready
abbrev Pp:=@wp_region_held_drew
abbrev Pq:=@wp_store_row
abbrev Pr:=@wpAnyH_done
abbrev Ps:=@underlying36
abbrev Pt:=@AllReady.cons
abbrev Pu:=@AllReady.nil
abbrev Pv:=@wpAny_ready
def eS (l:List UInt8)(p n:Nat):Int:=if CR l p≠0 then CR l p else upS l (p+22) n
theorem UQ {l:List UInt8}{p n:Nat}:eS l p n=0↔CR l p=0/\upS l (p+22) n=0:=by
 unfold eS;by_cases h:CR l p=0
 ·rw[Ba (fun k=>k h)];exact⟨fun k=>⟨h,k⟩,fun k=>k.2⟩
 ·rw[Bb h];exact⟨fun k=>absurd k h,fun k=>absurd k.1 h⟩
theorem aQ (l:List UInt8)(p:Nat):CR l p=eS l p 0:=by
 unfold eS
 split
 ·rfl
 ·show _=(0:Int);omega
theorem cU {l:List UInt8}{p n:Nat}(h:eS l p n=0):eS l p (n+1)=L8 l (p+22) n:=by
 obtain⟨h1,h2⟩:=UQ.1 h;unfold eS;rw[Ba (fun k=>k h1),QV h2]
theorem Qop {l:List UInt8}{p n:Nat}(h:eS l p n≠0):eS l p (n+1)=eS l p n:=by
 unfold eS at *
 split
 ·rfl
 ·rename_i h1
  rw[Ba h1] at h;exact V2 h
structure Y4j (l:List UInt8) (p n:Nat) (e V E:Int) (Q:Nat):Prop where
 ok:E=0->e=0/\V=((BP l (p+22) n:Nat):Int)/\Q=p+22+C1 (n+1)/\eS l p (n+1)=BX n (BP l (p+22) n)
 bad:E≠0->E=eS l p (n+1)
theorem N3 {l:List UInt8}{p n q:Nat}{e:Int}(b:eS l p n=e)(c:e=0->q=p+22+C1 n)(d:Int)(hd:d=((CS n:Nat):Int))(hn:CS n<=32):
  Y4j l p n e (FG l e q d) (FB l e q d) (FE l e q d):=by
 unfold FG FB FE;by_cases a:e=0
 ·rw[Bb a,Bb a,Bb a];have c:=c a;subst hd c;by_cases hs:8*l.length<p+22+C1 n+CS n
  ·rw[show CM l (p+22+C1 n) ((CS n:Nat):Int)=p+22+C1 n by unfold CM;rw[FS sX sX];rfl,FS sX sX];exact⟨fun h=>absurd h sY,fun _=>by rw[cU (b.trans a),UM hs]⟩
  ·rw[show CM l (p+22+C1 n) ((CS n:Nat):Int)=p+22+C1 n+CS n by unfold CM;rw[EK sX sX];rfl,EK sX sX];exact⟨fun _=>⟨a,rfl,by show _=p+22+(C1 n+CS n);omega,by rw[cU (b.trans a),RQ (by omega)]⟩,fun h=>absurd rfl h⟩
 ·rw[Ba a,Ba a,Ba a];exact⟨fun h=>absurd h a,fun _=>by rw[Qop (by rw[b];exact a),b]⟩
theorem Y4j.test {l:List UInt8}{p n:Nat}{e V E:Int}{Q:Nat}(h:Y4j l p n e V E Q)(a:Bool)(b:Int)
  (d:V=((BP l (p+22) n:Nat):Int)->BX n (BP l (p+22) n)=if a=true then 0 else b):Jx E a b=eS l p (n+1):=by
 unfold Jx;by_cases c:E=0
 ·obtain⟨-,h1,-,h2⟩:=h.ok c;rw[h2,d h1];cases a with
  |true=>rw[Ba sV,Bb rfl,c]
  |false=>rw[Bb ⟨c,rfl⟩,Ba sY]
 ·rw[Ba sX];exact h.bad c
theorem Y4j.free {l:List UInt8}{p n:Nat}{e V E:Int}{Q:Nat}(h:Y4j l p n e V E Q)(b:BX n (BP l (p+22) n)=0):E=eS l p (n+1):=by
 by_cases a:E=0
 ·obtain⟨-,-,-,h2⟩:=h.ok a;rw[h2,b,a]
 ·exact h.bad a
theorem Y4j.done {l:List UInt8}{p n:Nat}{e V E:Int}{Q:Nat}(h:Y4j l p n e V E Q)(a:eS l p (n+1)=0):e=0/\V=((BP l (p+22) n:Nat):Int)/\Q=p+22+C1 (n+1):=by
 have h1:E=0:=by
  by_cases h1:E=0
  ·exact h1
  ·exact absurd ((h.bad h1).trans a) h1
 exact⟨(h.ok h1).1,(h.ok h1).2.1,(h.ok h1).2.2.1⟩
theorem Uj {n v:Nat}(h:n=0\/n=2\/n=4):BX n v=0:=by
 unfold BX;rw[Ba sX,Ba sX,Ba sX]
theorem Qj0 (v:Nat)(V:Int)(h:V=(v:Int)):BX 1 v=if (V==2)=true then 0 else 5:=by
 subst h;unfold BX;by_cases hv:v=2
 ·rw[Ba sX,Ba sX,Ba sX,Bb (by rw[hv];rfl)]
 ·rw[Bb sX,Ba sU]
theorem qP (v:Nat)(V:Int)(h:V=(v:Int)):BX 3 v=if DS V=true then 0 else 5:=by
 subst h;exact Wfy
theorem X6 {n:Nat}(hn:n=5\/n=7)(v:Nat)(V:Int)(h:V=(v:Int)):BX n v=if (V==0)=true then 0 else 6:=by
 subst h;unfold BX;by_cases hv:v=0
 ·rw[Ba sX,Ba sX,Ba sX,Bb (by rw[hv];rfl)]
 ·rw[Ba sX,Bb sX,Ba sU]
theorem Qd8 (v:Nat)(V:Int)(h:V=(v:Int)):BX 6 v=if decide (1<=V)=true then 0 else 9:=by
 subst h;unfold BX;by_cases hv:v=0
 ·rw[Ba sX,Ba sX,Bb ⟨rfl,hv⟩,Ba sU]
 ·rw[Ba sX,Ba sX,Ba sX,Bb sU]
def ME (l:List UInt8)(p:Nat)(e:Int)(q:Nat)(L:List Int):Prop:=
 (e≠0/\(shk l p).2.2=e)\/(e=0/\L.length<=8/\eS l p 8=0/\BJ l 8 (p+49)=(L++(BJ l (8-L.length) q).1,(BJ l (8-L.length) q).2))
def sQ (l:List UInt8)(p:Nat)(e:Int)(q:Nat)(L:List Int):Prop:=
 (shk l p).2.2=e/\(e=0->eS l p 8=0/\shk l p=(JK l (p+22) L,q,0))
theorem ME.start {l:List UInt8}{p q:Nat}{e:Int}(a:eS l p 8=e)(c:e=0->q=p+49):ME l p e q []:=by
 by_cases b:e=0
 ·right
  rw[c b];exact⟨b,Do _,a.trans b,rfl⟩
 ·left
  refine⟨b,?_⟩;unfold eS at a;by_cases hm:CR l p=0
  ·rw[Ba (fun k=>k hm)] at a;rw[SI hm (by rw[a];exact b),a]
  ·rw[Bb hm] at a;rw[OH hm,a]
theorem VD {l:List UInt8}{p:Nat}(b:eS l p 8=0){f:Int}(a:(BJ l 8 (p+49)).2.2=f)(c:f≠0):(shk l p).2.2=f:=by
 obtain⟨h1,h2⟩:=UQ.1 b;rw[SR h1 h2 (by rw[a];exact c),a]
theorem ME.bit {l:List UInt8}{p q:Nat}{e:Int}{L:List Int}(h:ME l p e q L):
  (FG l e q 1≠1->sQ l p (FB l e q 1) (FE l e q 1) L)/\(FG l e q 1=1->e=0/\FB l e q 1=0/\FE l e q 1=q+1/\q+1<=8*l.length/\AB l q 1≠0):=by
 unfold FG FB FE;rcases h with ⟨a,d⟩|⟨a,j,b,hs⟩
 ·rw[Ba a,Ba a,Ba a];exact⟨fun _=>⟨d,fun k=>absurd k a⟩,fun k=>absurd k sY⟩
 ·rw[Bb a,Bb a,Bb a];by_cases c:8*l.length<q+1
  ·rw[show CM l q 1=q by unfold CM;rw[FS sX sX];rfl,FS sX sX];refine⟨fun _=>⟨?_,fun k=>absurd k sY⟩,fun k=>absurd k sY⟩;rw[Wf c] at hs;exact VD b (by rw[hs]) sY
  ·have ht:CM l q 1=q+1:=by unfold CM;rw[EK (by omega) (by omega)];rfl
   have hk:ask l q 1=(((AB l q 1:Nat):Int),0):=EK sX sX;rw[ht,hk];have f:=EB l q 1;by_cases h1:AB l q 1=0
   ·refine⟨fun _=>?_,fun k=>absurd k (by simp only[h1];decide)⟩;rw[R3 sX h1] at hs;obtain⟨g,i⟩:=UQ.1 b;have e:shk l p=(JK l (p+22) (BJ l 8 (p+49)).1,(BJ l 8 (p+49)).2.1,0):=Qx g i (by rw[hs]);rw[hs,Fa] at e;exact⟨by rw[e],fun _=>⟨b,e⟩⟩
   ·refine⟨fun k=>absurd ?_ k,fun _=>⟨a,rfl,rfl,sX,h1⟩⟩;show ((AB l q 1:Nat):Int)=1;omega
theorem ME.byte {l:List UInt8}{p q:Nat}{L:List Int}(h:ME l p 0 q L)(a:q+1<=8*l.length)(h1:AB l q 1≠0):
  L.length<=8/\ME l p (FB l (Jx 0 (decide ((L.length:Int)<8)) 13) (q+1) 8) (FE l (Jx 0 (decide ((L.length:Int)<8)) 13) (q+1) 8) (L++[FG l (Jx 0 (decide ((L.length:Int)<8)) 13) (q+1) 8]):=by
 rcases h with ⟨g,_⟩|⟨_,i,c,hs⟩
 ·exact absurd rfl g
 refine⟨i,?_⟩;by_cases b:L.length=8
 ·have d:Jx 0 (decide ((L.length:Int)<8)) 13=13:=by unfold Jx;rw[Bb ⟨rfl,Gl (by omega)⟩]
  rw[d];unfold FG FB FE;rw[Ba sY,Ba sY,Ba sY]
  left
  refine⟨sY,?_⟩;rw[b,Ci,Wj a h1] at hs;exact VD c (by rw[hs]) sY
 ·have d:Jx 0 (decide ((L.length:Int)<8)) 13=0:=by unfold Jx;rw[Ba (fun k=>by have:=k.2;rw[Gm (by omega)] at this;cases this)]
  rw[d];unfold FG FB FE;rw[Bb rfl,Bb rfl,Bb rfl];obtain⟨k,hk⟩:∃k,8-L.length=k+1:=⟨7-L.length,sX⟩;rw[hk] at hs;by_cases e:8*l.length<q+1+8
  ·rw[show CM l (q+1) 8=q+1 by unfold CM;rw[FS sX sX];rfl,FS sX sX]
   left
   refine⟨sY,?_⟩;rw[Vn a h1 e] at hs;exact VD c (by rw[hs]) sY
  ·rw[show CM l (q+1) 8=q+9 by unfold CM;rw[EK sX sX];rfl,EK sX sX]
   right
   rw[R7 h1 sX] at hs;refine⟨rfl,by rw[B8];show L.length+1<=8;omega,c,?_⟩;have f:8-(L++[(((AB l (q+1) (Int.toNat 8):Nat):Int),(0:Int)).1]).length=k:=by rw[B8];show 8-(L.length+1)=k;omega
   rw[f,hs];simp
structure PwS (w0:A5) (A X S b:Nat) (s:ByteArray) (w:A5) (e:Int) (q:Nat) (Z:List A0):Prop where
 cap:Cap w X A b s e q
 sh:w.heap[S]? =some (.cells Z.toArray 39 (0,0))
 res:w.heap[A+1]? =some (.cells (AU EJ (.slice none 0 0) (.slice none 0 0) 0).toArray 39 (0,0))
 low:w0.grownBy w (some b)
 sep:w0.heap.size=A/\b<A/\A+1<X/\X<S/\S<w.heap.size
theorem PwS.move {w0 w a:A5}{A X S b:Nat}{s:ByteArray}{e c:Int}{q q':Nat}{Z:List A0}(h:PwS w0 A X S b s w e q Z)(hc:Cap a X A b s c q')(hm:Ybe X b w a):PwS w0 A X S b s a c q' Z:=by
 obtain⟨g,i,j,l,d⟩:=h.sep;exact⟨hc,(hm.block S d sX sX).trans h.sh,(hm.block (A+1) sX sX sX).trans h.res,
  ⟨hm.os.trans h.low.os,hm.tape.trans h.low.tape,hm.output.trans h.low.output,Ef h.low.size hm.size,fun k hk f=>(hm.block k (Bc hk h.low.size) sX (by simpa using f)).trans (h.low.block k hk f)⟩,
  g,i,j,l,Bc d hm.size⟩
theorem PwS.set {w0 w:A5}{A X S b:Nat}{s:ByteArray}{e:Int}{q:Nat}{Z:List A0}(h:PwS w0 A X S b s w e q Z)(i:Nat)(v:A0):PwS w0 A X S b s (w.setCell ⟨S,i,none⟩ v) e q (Z.set i v):=by
 obtain⟨a,c,d,f,g⟩:=h.sep;have hg:=D3 w ⟨S,i,none⟩ v;exact⟨h.cap.set _ _ ⟨show S≠X by omega,show S≠A by omega,show S≠b by omega⟩,B3 v h.sh,(hg.block (A+1) sX (by show some (A+1)≠some S;intro e;injection e with e;omega)).trans h.res,
  ⟨h.low.os,h.low.tape,h.low.output,Ef h.low.size hg.size,fun k hk j=>(hg.block k (Bc hk h.low.size) (by show some k≠some S;intro e;injection e with e;omega)).trans (h.low.block k hk j)⟩,
  a,c,d,f,Bc g hg.size⟩
theorem PwS.grown {w0 w a:A5}{A X S b:Nat}{s:ByteArray}{e:Int}{q:Nat}{Z:List A0}{row:Option Nat}(h:PwS w0 A X S b s w e q Z)(hg:w.grownBy a row)(hr:∀g,row=some g->S<g):PwS w0 A X S b s a e q Z:=by
 obtain⟨d,f,i,j,l⟩:=h.sep;have hk:∀k,k<=S->a.heap[k]? =w.heap[k]?:=fun k hk=>hg.block k sX (fun e=>by have:=hr k e.symm;omega);exact⟨⟨(hk X sX).trans h.cap.wrong,(hk A sX).trans h.cap.box,⟨(hk b sX).trans h.cap.rd.1,h.cap.rd.2⟩,h.cap.apart⟩,(hk S sX).trans h.sh,(hk (A+1) sX).trans h.res,
  ⟨hg.os.trans h.low.os,hg.tape.trans h.low.tape,hg.output.trans h.low.output,Ef h.low.size hg.size,fun k c m=>(hk k sX).trans (h.low.block k c m)⟩,
  d,f,i,j,Bc l hg.size⟩
theorem PwS.drew {w0 w:A5}{A X S b:Nat}{s:ByteArray}{e:Int}{q:Nat}{Z:List A0}(h:PwS w0 A X S b s w e q Z):PwS w0 A X S b s w.drew e q Z:=h.grown (KU w none) (fun g h=>uA)
theorem PwS.at {w0 w:A5}{A X S b:Nat}{s:ByteArray}{e:Int}{q:Nat}{Z:List A0}(h:PwS w0 A X S b s w e q Z){i:Nat}{v:A0}(hv:Z[i]? =some v):w.cell? ⟨S,i,none⟩=some v:=AA h.sh hv
theorem PwS.free {w0 w:A5}{A X S b:Nat}{s:ByteArray}{e:Int}{q:Nat}{Z:List A0}(h:PwS w0 A X S b s w e q Z)(i:Nat):w.frozen? ⟨S,i,none⟩=false:=AL h.sh
theorem Vm {w i:A5}{base e size n a b:Nat}{v:A0}{j:List A0}(h:w.ownsRow base e size v n j)(hm:Ybe a b w i)(k:a<base)(l:b<base):i.ownsRow base e size v n j:=by
 refine⟨h.1,?_⟩;rcases h.2 with hn|⟨g,cap,d,rfl,f,c,rest⟩
 ·exact .inl hn
 ·refine .inr ⟨g,cap,d,rfl,f,?_,rest⟩;rw[hm.block g (Am.1 c).1 sX sX];exact c
def kO (l:List UInt8)(s:ByteArray)(p b:Nat)(w:A5)(e:Ae)(c:A5):Prop:=
 ∃(h:Shd) (a:Option Addr) (cap q:Nat),e=.returned (.tuple #[.agg (AU h (.slice a h.supp.length cap) (.slice none 0 0) 0).toArray,.int .i64 (shk l p).2.2])/\
  ((shk l p).2.2=0->shk l p=(h,q,0))/\BO c a h.supp/\(∀x,a=some x->w.heap.size<=x.block)/\AE c b s q/\w.grownBy c (some b)
set_option maxRecDepth 100000 in
theorem jI (w:A5)(b:Nat)(s:ByteArray)(p:Nat)(hr:AE w b s p)(hs:s.size<=1099511627776):
  A9 prog 156 #[.pointer (some ⟨b,0,none⟩)] w (kO s.data.toList s p b w):=by
 have de:∀(fn:Fn) (first cap:Array A0) (w:A5),(Instr.makeFunc fn first cap).run prog w=.ok (.func fn first cap) w:=fun _ _ _ _=>rfl;have c:=fun w hr=>pP w b s p hr hs;have an:b<w.heap.size:=hr.lt;obtain⟨A,V⟩:=Ah w.heap.size;obtain⟨l,hl⟩:=Ah s.data.toList;have W:eS l p 0=0->PH l p=p+22+C1 0:=fun h=>by unfold PH;rw[Bb ((aQ l p).trans h)];rfl
 rw[hl] at c ⊢;rw[aQ] at c;obtain⟨e0,Y⟩:=Ah (eS l p 0);obtain⟨q0,ao⟩:=Ah (PH l p);rw[Y,ao] at c W;have ct:=Dm Y;have cu:=Dm W;have I:=Dm hl;clear Y W ao;obtain⟨wA,z⟩:=Ah ((w.alloc (.cells #[.pointer (some ⟨b,0,none⟩)] 54 (0,0))).alloc (.cells (AU EJ (.slice none 0 0) (.slice none 0 0) 0).toArray 39 (0,0)));have E:Below A w wA:=by rw[<-z,<-V];exact((Dn _ w).alloc (B9 _) _).alloc (by simp) _
 have bj:wA.heap.size=A+2:=by rw[<-z,<-V];simp
 have ap:wA.heap[A]? =some (.cells [.pointer (some ⟨b,0,none⟩)].toArray 54 (0,0)):=by rw[<-z,<-V];exact BM (heap_alloc_new w _)
 have aq:wA.heap[A+1]? =some (.cells (AU EJ (.slice none 0 0) (.slice none 0 0) 0).toArray 39 (0,0)):=by
  rw[<-z,<-V];have:=heap_alloc_new (w.alloc (.cells #[.pointer (some ⟨b,0,none⟩)] 54 (0,0))) (.cells (AU EJ (.slice none 0 0) (.slice none 0 0) 0).toArray 39 (0,0))
  simpa using this
 have ar:AE wA b s p:=hr.below (V▸E);unfold AU EJ at z;have au:=Dm z;have cv:=Dm V;clear z hl hr;rw[V] at an
 go_enter func156,ntmps156
 go_wp2_with fail
 rw[au.out];refine(c _ ar).mono ?_;rintro e w1 ⟨rfl,aa,F⟩;have av:=(F.block A sX tV).trans ap;have aw:=(F.block (A+1) sX tV).trans aq;obtain⟨X,hX⟩:=Ah w1.heap.size;have bk:A+1<X:=by have:=F.size;omega
 obtain⟨y0,B⟩:=Ah ((w1.alloc (.cells #[.int .i64 e0] 27 (0,0))).alloc (.cells (AU EJ (.slice none 0 0) (.slice none 0 0) 0).toArray 39 (0,0)));have G:Below X w1 y0:=by rw[<-B,<-hX];exact((Dn _ w1).alloc (B9 _) _).alloc (by simp) _
 have bl:PwS w A X (X+1) b s y0 e0 q0 (AU EJ (.slice none 0 0) (.slice none 0 0) 0):=by
  refine⟨⟨by rw[<-B,<-hX];exact BM (heap_alloc_new w1 _),(G.block A sX).trans av,⟨(G.block b sX).trans aa.1,aa.2⟩,sX,sX,sX⟩,?_,(G.block (A+1) sX).trans aw,?_,cv.out,an,bk,sX,by rw[<-B];simp;omega⟩
  ·rw[<-B,<-hX];have:=heap_alloc_new (w1.alloc (.cells #[.int .i64 e0] 27 (0,0))) (.cells (AU EJ (.slice none 0 0) (.slice none 0 0) 0).toArray 39 (0,0))
   simpa using this
  ·exact AP (AP (BF (cv.out▸E) _) F) (BF (hX▸G) _)
 unfold AU EJ at B;have df:=Dm hX;have ax:=Dm B;clear B G av aw aa F ap aq E bj ar c au hX
 go_wp2_with fail
 rw[df.out,ax.out];refine(KY _ X A b s e0 q0 8 bl.cap).mono ?_;rintro r0 z0 ⟨rfl,hc,hm⟩;rw[I.out] at hc ⊢;have bm:=N3 ct.out cu.out 8 rfl sY;generalize FG l e0 q0 8=v0 at *;generalize FB l e0 q0 8=f0 at *;generalize FE l e0 q0 8=q1 at *;have J:=bl.move hc hm;clear hc hm bl;have t:=J.at (i:=0) rfl;have y:=J.free 0;have ay:=J.set 0 (.int .i64 v0);obtain⟨e1,d⟩:=Ah (eS l p 1);have f:=(bm.free (Uj sX)).symm;rw[d] at f;subst f;have ab:=Dm d;have bn:=Dm fun h=>bm.done (d.trans h);have bd:=Dm fun h=>(bn.out h).2.2;have bo:=ay;clear d;clear bm ct cu J ay
 go_wp2_with fail
 try clear t y
 refine(KY _ X A b s e1 q1 2 bo.cap).mono ?_;rintro r1 z1 ⟨rfl,hc,hm⟩;rw[I.out] at hc ⊢;have bp:=N3 ab.out bd.out 2 rfl sY;generalize FG l e1 q1 2=v1 at *;generalize FB l e1 q1 2=f1 at *;generalize FE l e1 q1 2=q2 at *;have ac:=bo.move hc hm;clear hc hm bo
 go_wp2_with fail
 try clear t y
 refine(P4 _ X A b s f1 q2 (v1==2) 5 ac.cap).mono ?_;rintro r1 u1 ⟨rfl,hc,hm⟩;rw[bp.test (v1==2) 5 (Qj0 _ _)] at hc;obtain⟨e2,d⟩:=Ah (eS l p 2);rw[d] at hc;have ae:=Dm d;have bq:=Dm fun h=>bp.done (d.trans h);have cw:=Dm fun h=>(bq.out h).2.2;have br:=ac.move hc hm;clear d hc hm ac bp ab bd
 go_wp2_with fail
 try clear t y
 refine(KY _ X A b s e2 q2 3 br.cap).mono ?_;rintro r2 z2 ⟨rfl,hc,hm⟩;rw[I.out] at hc ⊢;have bs:=N3 ae.out cw.out 3 rfl sY;generalize FG l e2 q2 3=v2 at *;generalize FB l e2 q2 3=f2 at *;generalize FE l e2 q2 3=q3 at *;have M:=br.move hc hm;clear hc hm br;have t:=M.at (i:=1) rfl;have y:=M.free 1;have az:=M.set 1 (.int .i64 v2);obtain⟨e3,d⟩:=Ah (eS l p 3);have f:=(bs.free (Uj sX)).symm;rw[d] at f;subst f;have bf:=Dm d;have bt:=Dm fun h=>bs.done (d.trans h);have bg:=Dm fun h=>(bt.out h).2.2;have bu:=az;clear d;clear bs ae cw M az
 go_wp2_with fail
 try clear t y
 refine(KY _ X A b s e3 q3 3 bu.cap).mono ?_;rintro r3 z3 ⟨rfl,hc,hm⟩;rw[I.out] at hc ⊢;have bv:=N3 bf.out bg.out 3 rfl sY;generalize FG l e3 q3 3=N at *;generalize FB l e3 q3 3=f3 at *;generalize FE l e3 q3 3=q4 at *;have O:=bu.move hc hm;clear hc hm bu;have t:=O.at (i:=2) rfl;have y:=O.free 2;have af:=O.set 2 (.int .i64 N)
 go_wp2_with fail
 try clear t y
 refine(dQ N _).mono ?_;rintro r u ⟨rfl,rfl⟩
 go_wp2_with fail
 refine(P4 _ X A b s f3 q4 (DS N) 5 af.cap).mono ?_;rintro r3 u3 ⟨rfl,hc,hm⟩;rw[bv.test (DS N) 5 (qP _ _)] at hc;obtain⟨e4,d⟩:=Ah (eS l p 4);rw[d] at hc;have cx:=Dm d;have bw:=Dm fun h=>bv.done (d.trans h);have cy:=Dm fun h=>(bw.out h).2.2;have bx:=af.move hc hm;clear d hc hm af O bv bf bg
 go_wp2_with fail
 try clear t y
 refine(KY _ X A b s e4 q4 1 bx.cap).mono ?_;rintro r4 z4 ⟨rfl,hc,hm⟩;rw[I.out] at hc ⊢;have bz:=N3 cx.out cy.out 1 rfl sY;generalize FG l e4 q4 1=v4 at *;generalize FB l e4 q4 1=f4 at *;generalize FE l e4 q4 1=q5 at *;have P:=bx.move hc hm;clear hc hm bx;have t:=P.at (i:=3) rfl;have y:=P.free 3;have a0:=P.set 3 (.bool (v4==1))
 go_wp2_with fail
 refine(fP true _).mono ?_;rintro r u ⟨rfl,rfl⟩;rw[Bb rfl];obtain⟨e5,d⟩:=Ah (eS l p 5);have f:=(bz.free (Uj sX)).symm;rw[d] at f;subst f;have cz:=Dm d;have b0:=Dm fun h=>bz.done (d.trans h);have c1:=Dm fun h=>(b0.out h).2.2;have b1:=a0;clear d;clear bz cx cy P a0
 go_wp2_with fail
 try clear t y
 refine(KY _ X A b s e5 q5 4 b1.cap).mono ?_;rintro r5 z5 ⟨rfl,hc,hm⟩;rw[I.out] at hc ⊢;have b2:=N3 cz.out c1.out 4 rfl sY;generalize FG l e5 q5 4=v5 at *;generalize FB l e5 q5 4=f5 at *;generalize FE l e5 q5 4=q6 at *;have ag:=b1.move hc hm;clear hc hm b1
 go_wp2_with fail
 try clear t y
 refine(P4 _ X A b s f5 q6 (v5==0) 6 ag.cap).mono ?_;rintro r5 u5 ⟨rfl,hc,hm⟩;rw[b2.test (v5==0) 6 (X6 (.inl rfl) _ _)] at hc;obtain⟨e6,d⟩:=Ah (eS l p 6);rw[d] at hc;have c2:=Dm d;have b3:=Dm fun h=>b2.done (d.trans h);have c3:=Dm fun h=>(b3.out h).2.2;have b5:=ag.move hc hm;clear d hc hm ag b2 cz c1
 go_wp2_with fail
 try clear t y
 refine(KY _ X A b s e6 q6 5 b5.cap).mono ?_;rintro r6 z6 ⟨rfl,hc,hm⟩;rw[I.out] at hc ⊢;have b6:=N3 c2.out c3.out 5 rfl sY;generalize FG l e6 q6 5=T at *;generalize FB l e6 q6 5=f6 at *;generalize FE l e6 q6 5=q7 at *;have Q:=b5.move hc hm;clear hc hm b5;have t:=Q.at (i:=4) rfl;have y:=Q.free 4;have ah:=Q.set 4 (.int .i64 T)
 go_wp2_with fail
 try clear t y
 refine(P4 _ X A b s f6 q7 (decide (1<=T)) 9 ah.cap).mono ?_;rintro r6 u6 ⟨rfl,hc,hm⟩;rw[b6.test (decide (1<=T)) 9 (Qd8 _ _)] at hc;obtain⟨e7,d⟩:=Ah (eS l p 7);rw[d] at hc;have c4:=Dm d;have b7:=Dm fun h=>b6.done (d.trans h);have c5:=Dm fun h=>(b7.out h).2.2;have b8:=ah.move hc hm;clear d hc hm ah Q b6 c2 c3
 go_wp2_with fail
 try clear t y
 refine(KY _ X A b s e7 q7 1 b8.cap).mono ?_;rintro r7 z7 ⟨rfl,hc,hm⟩;rw[I.out] at hc ⊢;have b9:=N3 c4.out c5.out 1 rfl sY;generalize FG l e7 q7 1=v7 at *;generalize FB l e7 q7 1=f7 at *;generalize FE l e7 q7 1=q8 at *;have ai:=b8.move hc hm;clear hc hm b8
 go_wp2_with fail
 try clear t y
 refine(P4 _ X A b s f7 q8 (v7==0) 6 ai.cap).mono ?_;rintro r7 u7 ⟨rfl,hc,hm⟩;rw[b9.test (v7==0) 6 (X6 (.inr rfl) _ _)] at hc;obtain⟨e8,d⟩:=Ah (eS l p 8);rw[d] at hc;have c6:=Dm d;have ca:=Dm fun h=>b9.done (d.trans h);have c7:=Dm fun h=>(ca.out h).2.2;have cb:=ai.move hc hm;clear d hc hm ai b9 c4 c5;obtain⟨b4,o⟩:=Ah (v4==1);rw[o] at cb;have c8:PwS w A X (X+1) b s u7 e8 q8 (AU ⟨v0,v2,N,b4,T,[]⟩ (.slice none 0 0) (.slice none 0 0) 0):=cb;have c9:=ME.start c6.out (fun h=>c7.out h);obtain⟨i0,hi,cc,cd,ce⟩:=Ds YC;have a1:u7.ownsRow (X+2) 3 1 (.slice none 0 0) ([]:List Int).length (LF []):=Dj _ _ _ _;have dg:=Dm o;have dh:Hid (eS l p 8=0->∀L,JK l (p+22) L=⟨v0,v2,N,b4,T,L⟩):=Dm fun h8 L=>by
  have g7:=(ca.out (c6.out.symm.trans h8)).1;obtain⟨g6,x6,-⟩:=b7.out g7;have g5:=(b3.out g6).1;obtain⟨g4,x4,-⟩:=b0.out g5;obtain⟨g3,x3,-⟩:=bw.out g4;obtain⟨g2,x2,-⟩:=bt.out g3;have g1:=(bq.out g2).1;obtain⟨-,x0,-⟩:=bn.out g1;unfold JK;rw[<-o,x0,x2,x3,x4,x6]
  congr 1
  rw[I7];simp only[Bj];omega
 clear o cb c7 bn bq bt bw b0 b3 b7 ca ax
 go_wp2
 go_loopw [55] (fun _ wr=>∃(e:Int) (q:Nat) (L:List Int) (v:A0),PwS w A X (X+1) b s wr e q (AU ⟨v0,v2,N,b4,T,[]⟩ v (.slice none 0 0) 0)/\wr.ownsRow (X+2) 3 1 v L.length (LF L)/\ME l p e q L) (fun _ wr=>match wr.cell? ⟨X+1,5,none⟩ with|some (.slice _ n _)=>10-n|_=>0)
 case atStart=>exact⟨e8,q8,[],_,c8,a1,c9⟩
 case round=>
  clear c8 a1 c9;obtain⟨e,q,L,v,am,hu,hR⟩:=hrel;obtain⟨pa,cap,rfl,a2⟩:=OK rfl hu;obtain⟨x1,x2⟩:=hR.bit
  go_wp2_with fail
  refine(KY _ X A b s e q 1 am.cap).mono ?_;rintro r z0 ⟨rfl,hc,hm⟩;rw[I.out] at hc ⊢;have D:=am.move hc hm;have H:=Vm hu hm sX (by have:=am.sep;omega);have a3:=am.at (i:=5) rfl;generalize FG l e q 1=cf at *;generalize FB l e q 1=ab at *;generalize FE l e q 1=bd at *;by_cases hV:cf=1
  ·obtain⟨rfl,rfl,rfl,y1,y2⟩:=x2 hV;obtain⟨di,cg⟩:=hR.byte y1 y2;have d1:(cf==1)=true:=by rw[hV];rfl
   have k5:=D.at (i:=5) rfl;clear x1 x2 hc hm hu hR hV am
   go_wp2_with fail
   clear k5;refine(P4 _ X A b s 0 (q+1) (decide ((L.length:Int)<8)) 13 D.cap).mono ?_;rintro r u1 ⟨rfl,hc,hm⟩;have da:=D.move hc hm;have a4:=Vm H hm sX (by have:=D.sep;omega);have dj:=D.sep;generalize Jx 0 (decide ((L.length:Int)<8)) 13=ae at *;have bh:=da.drew;have k5:=bh.at (i:=5) rfl;clear D H hc hm a2 d1 y1 y2 da
   go_wp2
   refine Ht tN ?_;change wpAny _ _ _ _ _ _ _ (World.drew _);refine AW 0 (some 63) (v:=.pointer (some ⟨X+1,5,none⟩)) rfl rfl tN tN tN Wbr (Or.inl ⟨tN,?_⟩) ?_
   ·(intro x;go_simp;try with_reducible rfl)
   try simp only[A1]
   refine AW 2 (some 65) (v:=.func (.func 174) #[] #[.pointer (some ⟨X,0,none⟩),.pointer (some ⟨A,0,none⟩)]) rfl rfl tN tN tN Wbr (Or.inl ⟨tN,?_⟩) ?_
   ·(intro x;go_simp;try with_reducible rfl)
   try simp only[A1]
   refine dB (S:=fun x=>x.cell? ⟨X+1,5,none⟩=some (.slice pa L.length cap)) 1 3 4 (some 64) (v:=.slice pa L.length cap) rfl rfl rfl rfl tN tN tN Wbr tN tN tN tN tN sY sY k5 (Or.inl ⟨tN,?_⟩) ?_
   ·(intro x hx;have c0:=(show _ from hx);go_simp)
   try simp only[A1]
   refine wpOp_step rfl (fun K C=>?_);have a5:=Dm C;clear C
   go_simp
   go_wp2_with fail
   refine(KY _ X A b s ae (q+1) 8 bh.cap).mono ?_;rintro r z2 ⟨rfl,hc,hm⟩;rw[I.out] at hc ⊢;have bi:=bh.move hc hm;have a6:=Vm a4.drew hm sX sX;have dk:=bi.sep;generalize FG l ae (q+1) 8=U at *;generalize FB l ae (q+1) 8=bf at *;generalize FE l ae (q+1) 8=bg at *;refine a5.out _ _ ⟨bi.at (i:=5) rfl,?_⟩;clear a5 K k5 hc hm bh a4;refine wpOp_step rfl (fun K C=>?_);have a5:=Dm C;clear C
   go_simp
   have ch:=bi.grown (Hk z2 (.cells #[.int .i64 U] 3 (0,0)) none) (fun g h=>uA);refine a5.out _ _ ⟨ch.at (i:=5) rfl,?_⟩;clear a5 K;have o:=a6.alloc (.cells #[.int .i64 U] 3 (0,0));have a7:(z2.alloc (.cells #[.int .i64 U] 3 (0,0))).cell? ⟨z2.heap.size,0,none⟩=some (.int .i64 U):=AA (cs:=[.int .i64 U]) (heap_alloc_new z2 _) rfl;have a8:X+2<=(z2.alloc (.cells #[.int .i64 U] 3 (0,0))).heap.size:=sU;refine Pv (rs:=[5]) tN sV ?_;refine Pt rfl (fun K C=>?_) Pu;refine(Bb tN).mpr ?_;refine pQ rfl Ps hi cc rfl cd ce rfl o rfl a7 sX a8 ?_;intro dl w4 aj hg4;obtain⟨pa2,cap2,ci,-⟩:=OK (l:=L++[U]) (n:=L.length+1) sV (by rw[KX];exact aj);subst ci;have cj:=ch.grown hg4 (fun g hg=>by have:=FT o g hg;omega);refine C _ _ ?_;clear C K ch bi o a7 a8 a6;have k5:=cj.at (i:=5) rfl;have k6:=cj.free 5;have db:=cj.set 5 (.slice pa2 (L.length+1) cap2);refine AW 6 (some 69) (v:=.pointer (some ⟨X+1,5,none⟩)) rfl rfl tN tN tN Wbr (Or.inl ⟨tN,?_⟩) ?_
   ·(intro x;go_simp;try with_reducible rfl)
   try simp only[Act.put]
   refine Pv (rs:=[7]) tN sV ?_;refine Pt rfl (fun K C=>?_) Pu
   go_simp
   refine C _ _ ?_;clear C K k5 k6;refine wpAny_done tN ?_ _;have ck:=aj.kept (D3 w4 ⟨X+1,5,none⟩ (.slice pa2 (L.length+1) cap2)) (by cases hv:(Value.slice pa2 (L.length+1) cap2).ownBlock with|none=>exact .inl rfl|some g=>exact .inr (by have:=FT aj g hv;show some g≠some (X+1);intro e;injection e with e;omega));have cl:=db.at (i:=5) rfl
   go_wp2
   go_roundw
   case rel=>exact⟨bf,bg,L++[U],_,db,by rw[B8,KX];exact ck,cg⟩
   case measure=>
    rw[a3,cl];simp only;omega
  ·have hE:=x1 hV;have d1:(cf==1)=false:=by rw[Fe];exact hV
   clear x1 x2 hc hm hu hR hV am a2 a3;obtain⟨Z,hZ⟩:=Ah ((AU ⟨v0,v2,N,b4,T,[]⟩ (.slice pa L.length cap) (.slice none 0 0) 0).toArray);have ak:(prog.info? 39).map (·.size)=some Z.size:=hZ▸XL _ _ _ _;have a9:Z.all (·.oneCell')=true:=hZ▸OI _ _ _ _ _ _ _ _;have cm:(AU EJ (.slice none 0 0) (.slice none 0 0) 0).toArray.size=Z.size:=by rw[<-hZ];rfl
   have ba:z0.heap[X+1]? =some (.cells Z 39 (0,0)):=hZ▸D.sh;have bb:z0.cell? ⟨X,0,none⟩=some (.int .i64 ab):=AA D.cap.wrong rfl;have dm:=Dm hZ;have dc:=D.sep;clear hZ
   go_wp2
   refine Pp (S:=(fun x=>x.heap[X+1]? =some (.cells Z 39 (0,0))/\x.cell? ⟨X,0,none⟩=some (.int .i64 ab))) tN ⟨ba,bb⟩ (fun hH=>?_);refine BY 0 (some 70) (v:=.agg Z) rfl rfl tN tN tN Wbr hH (Or.inl ⟨tN,fun x hx=>FW (ty:=39) (x:=.tmp 7) (ad:=⟨X+1,0,none⟩) tN tN (Aq x (X+1) _ _ Z (0,0) _ hx.1 Pk rfl ak)⟩) ?_
   try simp only[A1]
   refine B2 1 (some 71) (v:=.int .i64 ab) rfl rfl hH tN (fun x hx=>by have c0:=hx.2;go_simp) ?_
   try simp only[A1]
   refine Po (rs:=[2]) tN sV ?_;refine Pm rfl (fun K C=>?_) Pn;refine(Bb tN).mpr ?_;refine Pq 39 _ _ rfl (A+1) Z rfl rfl 39 _ D.drew.res ak cm a9 ?_;obtain⟨w5,R⟩:=Ah (z0.drew.setRow (A+1) Z);have cn:w5.heap[A+1]? =some (.cells Z 39 (0,0)):=by rw[<-R];exact Es _ _ _ _ _ _ D.drew.res
   have m:z0.drew.grownBy w5 (some (A+1)):=by rw[<-R];exact⟨rfl,rfl,rfl,by simp,fun k _ hk=>En _ _ _ _ (by intro e;exact hk (by rw[e]))⟩
   rw[R];have co:(fun x=>x.heap[X+1]? =some (.cells Z 39 (0,0))/\x.cell? ⟨X,0,none⟩=some (.int .i64 ab)) w5:=⟨(m.block (X+1) (by show X+1<z0.heap.size;omega) sU).trans ba,(G4 (a:=⟨X,0,none⟩) (m.block X (by show X<z0.heap.size;omega) sU)).trans bb⟩;refine C.out _ _ co (fun cp=>?_);clear C K hH R;refine AC 3 (some 3) cp ?_
   try simp only[Act.put]
   refine Pr tN ?_ _
   go_wp2
   refine Hb (C0 rfl _ _ (A+1) 39 _ (0,0) _ rfl cn Pk rfl ak) rfl ?_;have cq:=H.drew.kept m (by cases hv:(Value.slice pa L.length cap).ownBlock with|none=>exact .inl rfl|some g=>exact .inr (by have:=FT H g hv;show some g≠some (A+1);intro e;injection e with e;omega));obtain⟨dn,dd,cr,bc⟩:=OK rfl cq;injection cr with e1 e2 e3;subst e1;have j:=D.drew.low;have al:=D.drew.cap.rd;refine⟨⟨v0,v2,N,b4,T,L⟩,pa,cap,bd,?_,fun h0=>?_,bc,fun x hx=>?_,⟨(m.block b al.lt sU).trans al.1,al.2⟩,m.os.trans j.os,m.tape.trans j.tape,m.output.trans j.output,Ef j.size m.size,fun k hk hn=>(m.block k (Bc hk j.size) sU).trans (j.block k hk hn)⟩
   ·rw[hE.1,<-dm.out];rfl
   ·rw[hE.1] at h0;obtain⟨g1,g2⟩:=hE.2 h0;rw[g2,dh.out g1 L]
   ·have:=FT H x.block (by rw[hx];rfl);omega
theorem gF {l:List UInt8}{p:Nat}(h:(shk l p).2.2≠0):(shk l p).1=EJ/\(shk l p).2.1=p:=by
 by_cases h1:CR l p=0
 ·by_cases h2:upS l (p+22) 8=0
  ·by_cases h3:(BJ l 8 (p+49)).2.2=0
   ·rw[Qx h1 h2 h3] at h;exact absurd rfl h
   ·rw[SR h1 h2 h3];exact⟨rfl,rfl⟩
  ·rw[SI h1 h2];exact⟨rfl,rfl⟩
 ·rw[OH h1];exact⟨rfl,rfl⟩
def bK (l:List UInt8)(s:ByteArray)(p b:Nat)(w:A5)(e:Ae)(c:A5):Prop:=
 ∃(a:Option Addr) (cap:Nat),e=.returned (.tuple #[.agg (AU (shk l p).1 (.slice a (shk l p).1.supp.length cap) (.slice none 0 0) 0).toArray,.int .i64 (shk l p).2.2])/\
  BO c a (shk l p).1.supp/\(∀x,a=some x->w.heap.size<=x.block)/\AE c b s (shk l p).2.1/\w.grownBy c (some b)
set_option maxRecDepth 100000 in
theorem pI (w:A5)(b:Nat)(s:ByteArray)(p:Nat)(hr:AE w b s p)(hs:s.size<=1099511627776):
  A9 prog 126 #[.pointer (some ⟨b,0,none⟩)] w (bK s.data.toList s p b w):=by
 have c:=fun w hr=>jI w b s p hr hs;have hp:=hr.2.1;have ac:b<w.heap.size:=hr.lt;obtain⟨A,G⟩:=Ah w.heap.size;obtain⟨wA,j⟩:=Ah (w.alloc (.cells #[.int .i64 0,.int .i64 0,.int .i64 0,.bool false,.int .i64 0,.slice none 0 0,.slice none 0 0,.int .i64 0] 39 (0,0)));have m:Below A w wA:=by rw[<-j,<-G];exact(Dn _ w).alloc (B9 _) _
 have ad:wA.heap.size=A+1:=by rw[<-j,<-G];simp
 have P:wA.heap[A]? =some (.cells #[.int .i64 0,.int .i64 0,.int .i64 0,.bool false,.int .i64 0,.slice none 0 0,.slice none 0 0,.int .i64 0] 39 (0,0)):=by rw[<-j,<-G];exact heap_alloc_new w _
 have H:AE wA b s p:=hr.below (G▸m);have bad:=fun h=>gF (l:=s.data.toList) (p:=p) h;obtain⟨l,hl⟩:=Ah s.data.toList;rw[hl] at c bad ⊢;have ae:=Dm j;have ab:=Dm G;rw[G] at ac;clear j hr hl
 go_enter func126,ntmps126
 go_wp2_with fail
 rw[ae.out];refine(EF _ _ _ _ H).mono ?_;rintro e u ⟨rfl,rfl⟩
 go_wp2_with fail
 refine(c _ H).mono ?_;rintro e Q ⟨h,a,cap,q,rfl,z,R,S,T,B⟩;clear c H;obtain⟨f,hf⟩:=Ah ((shk l p).2.2);rw[hf] at z bad ⊢;have aj:=Dm hf;obtain⟨Z,N⟩:=Ah ((AU h (.slice a h.supp.length cap) (.slice none 0 0) 0).toArray);rw[N];have n:(prog.info? 39).map (·.size)=some Z.size:=N▸XL _ _ _ _;have r:Z.all (·.oneCell')=true:=N▸OI _ _ _ _ _ _ _ _;have I:(#[.int .i64 0,.int .i64 0,.int .i64 0,.bool false,.int .i64 0,.slice none 0 0,.slice none 0 0,.int .i64 0]:Array A0).size=Z.size:=by rw[<-N];rfl
 have U:(prog.info? 39).map (·.size)=some (#[.int .i64 0,.int .i64 0,.int .i64 0,.bool false,.int .i64 0,.slice none 0 0,.slice none 0 0,.int .i64 0]:Array A0).size:=Tc;have af:(#[.int .i64 0,.int .i64 0,.int .i64 0,.bool false,.int .i64 0,.slice none 0 0,.slice none 0 0,.int .i64 0]:Array A0).all (·.oneCell')=true:=tN;obtain⟨C,E⟩:=Ah Q.heap.size;obtain⟨J,t⟩:=Ah (Q.alloc (.cells Z 39 (0,0)));have ak:A+1<=C:=by have:=B.size;omega
 have v:Below C Q J:=by rw[<-t,<-E];exact(Dn _ Q).alloc (B9 _) _
 have V:J.heap[C]? =some (.cells Z 39 (0,0)):=by rw[<-t,<-E];exact heap_alloc_new Q _
 have K:J.heap[A]? =some (.cells #[.int .i64 0,.int .i64 0,.int .i64 0,.bool false,.int .i64 0,.slice none 0 0,.slice none 0 0,.int .i64 0] 39 (0,0)):=(v.block A sX).trans ((B.block A sX sU).trans P);have y:AE J b s q:=T.below (E▸v);have F:BO J a h.supp:=R.below (E▸v);have g:w.grownBy J (some b):=AP (AP (BF (ab.out▸m) _) B) (BF (E▸v) _);have al:C<J.heap.size:=by rw[<-t,<-E];simp
 have am:=Dm N;have ah:=Dm E;have W:=Dm t;clear hf P N E t R T B v m G;by_cases h0:f=0
 ·subst h0;have hk:=z rfl;have ag:=Dm hk;clear z bad hk
  go_wp2_with (first|(with_reducible refine BL rfl 39 _ _ rfl Z _ 39 rfl rfl n I r ?_;rw[W.out,ah.out])|(with_reducible refine Pl rfl 39 _ rfl C rfl 39 Z (0,0) _ V Pk rfl n ?_)|(with_reducible refine AK rfl 39 _ _ rfl A Z _ rfl rfl 39 K n I r ?_;intro w5 L d))
  refine Hb (C0 rfl _ _ A 39 _ (0,0) _ rfl L Pk rfl n) rfl ?_;have X:BO w5 a h.supp:=by
   rcases F with k|⟨x,o,rfl,Y,k⟩
   ·exact .inl k
   ·have O:=S ⟨x,o,none⟩ rfl;have O:A+1<=x:=by rw[<-ad];exact O
    exact .inr ⟨x,o,rfl,Bc Y d.size,fun i hi=>(G4 (a:=⟨x,o+i,none⟩) (d.block x Y sU)).trans (k i hi)⟩
  refine⟨a,cap,?_,?_,fun x O=>?_,?_,?_⟩
  ·rw[ag.out,am.out];rfl
  ·rw[ag.out];exact X
  ·have:=S x O;have:=ab.out;omega
  ·rw[ag.out];exact⟨(d.block b y.lt sU).trans y.1,y.2⟩
  ·exact⟨d.os.trans g.os,d.tape.trans g.tape,d.output.trans g.output,Ef g.size d.size,fun k hk hn=>(d.block k (Bc hk g.size) (by have:=ab.out;simp;omega)).trans (g.block k hk hn)⟩
 ·have d1:(f != 0)=true:=by simpa using h0
  obtain⟨b1,b2⟩:=bad h0;have ai:=Dm b1;have an:=Dm b2;clear z bad b1 b2 F h0
  go_wp2_with (with_reducible refine BL rfl 39 _ _ rfl Z _ 39 rfl rfl n I r ?_;rw[W.out,ah.out])
  refine(GQ _ _ _ _ (p:Int) y sX sX).mono ?_;rintro e w3 ⟨rfl,D,M⟩;rw[Dp] at D;have aa:=(M.block A sX sU).trans K;have hg4:=AP g M;clear K M g y V
  go_wp2_with (with_reducible refine AK rfl 39 _ _ rfl A _ _ rfl rfl 39 aa U rfl af ?_;intro w5 L d)
  refine Hb (C0 rfl _ _ A 39 _ (0,0) _ rfl L Pk rfl U) rfl ?_;refine⟨none,0,?_,?_,(fun x O=>by cases O),?_,?_⟩
  ·rw[ai.out,aj.out];rfl
  ·rw[ai.out];exact BO.nil _ _
  ·rw[an.out];exact⟨(d.block b D.lt sU).trans D.1,D.2⟩
  ·exact⟨d.os.trans hg4.os,d.tape.trans hg4.tape,d.output.trans hg4.output,Ef hg4.size d.size,fun k hk hn=>(d.block k (Bc hk hg4.size) (by have:=ab.out;simp;omega)).trans (hg4.block k hk hn)⟩
def Vw (l:List UInt8)(p:Nat)(w:A5)(e:Ae)(b:A5):Prop:=
 ∃(a:Option Addr) (cap:Nat),e=.returned (.tuple #[.agg (AU (shk l p).1 (.slice a (shk l p).1.supp.length cap) (.slice none 0 0) 0).toArray,.int .i64 ((shk l p).2.1:Nat),.int .i64 (shk l p).2.2])/\BO b a (shk l p).1.supp/\Below w.heap.size w b/\∀x,a=some x->w.heap.size<=x.block
theorem JO {l:List UInt8}{p:Nat}{w a:A5}{f:Int}{Y:Array A0}{e:Ae}(h:shk l p=(EJ,p,f))(b:#[.int .i64 0,.int .i64 0,.int .i64 0,.bool false,.int .i64 0,.slice none 0 0,.slice none 0 0,.int .i64 0]=Y)(c:e=.returned (.tuple #[.agg Y,.int .i64 (p:Int),.int .i64 f]))(d:Below w.heap.size w a):
  Vw l p w e a:=⟨none,0,by rw[h,c,<-b];rfl,by rw[h];exact BO.nil _ _,d,fun x g=>by cases g⟩
structure QwS (w0:A5) (A:Nat) (Y:Array A0) (w:A5):Prop where
 res:w.heap[A]? =some (.cells Y 39 (0,0))
 zs:w.heap[A+1]? =some (.cells Y 39 (0,0))
 low:Below w0.heap.size w0 w
 sep:w0.heap.size=A/\A+2<=w.heap.size
theorem QwS.grown {w0 w a:A5}{A:Nat}{Y:Array A0}{row:Option Nat}(h:QwS w0 A Y w)(hg:w.grownBy a row)(hr:∀g,row=some g->A+1<g):QwS w0 A Y a:=by
 obtain⟨c,d⟩:=h.sep;have hk:∀k,k<=A+1->a.heap[k]? =w.heap[k]?:=fun k hk=>hg.block k sX (fun e=>by have:=hr k e.symm;omega);exact⟨(hk A sX).trans h.res,(hk (A+1) sX).trans h.zs,⟨hg.os.trans h.low.os,hg.tape.trans h.low.tape,hg.output.trans h.low.output,Ef h.low.size hg.size,fun k b=>(hk k sX).trans (h.low.block k b)⟩,c,Ef d hg.size⟩
theorem QwS.below {w0 w a:A5}{A:Nat}{Y:Array A0}(h:QwS w0 A Y w)(b:Below w.heap.size w a):QwS w0 A Y a:=h.grown (BF b none) (fun g h=>uA)
def widL:List A0:=[.int .i64 8,.int .i64 2,.int .i64 3,.int .i64 3,.int .i64 1,.int .i64 4,.int .i64 5,.int .i64 1]
theorem iF (j:Fin 8):widL[j.val]? =some (.int .i64 ((CS j.val:Nat):Int)):=by
 match j with
 |0|1|2|3|4|5|6|7=>rfl
theorem sG:∀j:Fin 8,1<=CS j.val/\CS j.val<=8/\C1 j.val+CS j.val<=27:=sY
structure QwW (w0:A5) (A W:Nat) (Y:Array A0) (w:A5):Prop where
 q:QwS w0 A Y w
 wd:w.heap[W]? =some (.cells widL.toArray 3 (0,0))
 lt:A+2<=W/\W<w.heap.size
theorem QwW.grown {w0 w a:A5}{A W:Nat}{Y:Array A0}{row:Option Nat}(h:QwW w0 A W Y w)(hg:w.grownBy a row)(hr:∀g,row=some g->W<g):QwW w0 A W Y a:=
 ⟨h.q.grown hg (fun g e=>by have:=hr g e;have:=h.lt;omega),(hg.block W h.lt.2 (fun e=>by have:=hr W e.symm;omega)).trans h.wd,h.lt.1,Bc h.lt.2 hg.size⟩
theorem QwW.below {w0 w a:A5}{A W:Nat}{Y:Array A0}(h:QwW w0 A W Y w)(b:Below w.heap.size w a):QwW w0 A W Y a:=h.grown (BF b none) (fun g h=>uA)
theorem QwW.at {w0 w:A5}{A W:Nat}{Y:Array A0}(h:QwW w0 A W Y w){j:Nat}(hj:j<8):w.cell? ⟨W,j,none⟩=some (.int .i64 ((CS j:Nat):Int)):=AA h.wd (iF ⟨j,hj⟩)
def PT (l:List UInt8)(p j:Nat):List Int:=(List.range j).map fun k=>((BP l p k:Nat):Int)
theorem pA (l:List UInt8)(p j:Nat):PT l p (j+1)=PT l p j++[((BP l p j:Nat):Int)]:=by unfold PT;rw[Ck,Cc];rfl
theorem Wd (l:List UInt8)(p j:Nat):(PT l p j).length=j:=by simp[PT]
theorem Qgp {l:List UInt8}{p j:Nat}{f:Int}(hm:CR l p=0)(hj:j<8)(b:upS l (p+22) j=0)(c:L8 l (p+22) j=f)(a:f≠0):shk l p=(EJ,p,f):=by
 have h1:upS l (p+22) (j+1)=f:=by rw[QV b,c]
 have h2:=UU (l:=l) (p:=p+22) (n:=j+1) (by rw[h1];exact a) (7-j);rw[show j+1+(7-j)=8 by omega,h1] at h2;rw[SI hm (by rw[h2];exact a),h2]
theorem Qj1 {j v:Nat}(h:j=0\/j=2\/j=4):BX j v=0:=by
 unfold BX;rw[Ba sX,Ba sX,Ba sX]
theorem Qq9 (v:Nat):BX 1 v=if v=2 then 0 else 5:=by
 unfold BX;by_cases h:v=2
 ·rw[Ba sX,Ba sX,Ba sX,Bb h]
 ·rw[Bb sX,Ba h]
theorem jK (v:Nat):BX 3 v=if DS (v:Int)=true then 0 else 5:=by
 exact Wfy
theorem ZL {j:Nat}(hj:j=5\/j=7)(v:Nat):BX j v=if v=0 then 0 else 6:=by
 unfold BX;by_cases h:v=0
 ·rw[Ba sX,Ba sX,Ba sX,Bb h]
 ·rw[Ba sX,Bb sX,Ba h]
theorem lD (v:Nat):BX 6 v=if v=0 then 9 else 0:=by
 unfold BX;by_cases h:v=0
 ·rw[Ba sX,Ba sX,Bb ⟨rfl,h⟩,Bb h]
 ·rw[Ba sX,Ba sX,Ba sX,Ba h]
theorem oY (l:List UInt8)(q:Nat)(h:q+1<=8*l.length):AB l q 1=0↔(A2 l)[q]? =some 48:=by
 rw[JJ l q 1 h];exact⟨fun k=>k 0 sX,fun k i hi=>(by obtain rfl:i=0:=(by omega);exact k)⟩
def dE:A0->Nat
 |.slice _ n _=>n
 |_=>0
structure Y4k (b o:Nat) (p0 p2 p3 p4 p6:Int) (x:A5):Prop where
 c0:x.cell? ⟨b,o,none⟩=some (.int .i64 p0)
 c2:x.cell? ⟨b,o+2,none⟩=some (.int .i64 p2)
 c3:x.cell? ⟨b,o+3,none⟩=some (.int .i64 p3)
 c4:x.cell? ⟨b,o+4,none⟩=some (.int .i64 p4)
 c6:x.cell? ⟨b,o+6,none⟩=some (.int .i64 p6)
set_option maxRecDepth 100000 in
theorem Y6q (s:ByteArray)(p:Nat)(hp:p<=8*s.size)(hs:s.size<=100000)(w:A5):
  A9 prog 64 #[.string ⟨(A2 s.data.toList).toArray⟩,.int .i64 (p:Int)] w (Vw s.data.toList p w):=by
 have bj:s.data.toList.length=s.size:=rfl;have a0:=N7 s;have ar:=Ut s;have hcut:=PS s;have cM:=fun w=>Se s (p:Int) sX w;have cN:∀T n,∀w,n<=32->T+n<=8*s.size->A9 prog 63 #[.string ⟨(((A2 s.data.toList).drop T).take n).toArray⟩] w fun e w'=>e=.returned (.int .i64 (AB s.data.toList T n:Nat))/\w=w':=fun T n w cs h=>
  ND ⟨(((A2 s.data.toList).drop T).take n).toArray⟩ (by rw[LD,Be];omega) (ET _ _ (DH _ _ (GX _))) w
 have cF:=fun k w=>Yl k w;have eF:=fun k=>mJ k;have bk:(p:Int).tmod 8=((p%8:Nat):Int):=by rw[Ik (by omega)];rfl
 obtain⟨l,hl⟩:=Ah s.data.toList;rw[hl] at bj a0 ar hcut cM cN ⊢;have am:=fun h=>dL (l:=l) (p:=p) h;have F:=fun h h2=>XP (l:=l) (p:=p) h h2;have B:=fun h h2 h1=>ZI (l:=l) (p:=p) h h2 h1;have V:=fun h h2 h1=>XJ (l:=l) (p:=p) h h2 h1;obtain⟨m,hm⟩:=Ah ((AM l p).1);obtain⟨f,hf⟩:=Ah ((AM l p).2);rw[hm,hf] at cM;rw[hf] at F B V;rw[hm] at B V;obtain⟨S,hS⟩:∃S:ByteArray,(⟨(A2 l).toArray⟩:ByteArray)=S:=⟨_,rfl⟩;rw[hS] at a0 hcut cM ⊢;have ct:Hid (∀i (h:i<S.size),(A2 l)[i]? =some S[i]):=Dm (by subst hS;exact ar);have ba:=Dm hcut;have X:=Dm a0;have cu:S.size<=800000:=sX;have bb:=Dm cN;have cv:=Dm cF;have cw:=Dm eF;clear hl hm hf hS ar hcut cN cF eF a0;obtain⟨A,hA⟩:=Ah w.heap.size;obtain⟨wA,a1⟩:=Ah ((w.alloc (.cells #[.int .i64 0,.int .i64 0,.int .i64 0,.bool false,.int .i64 0,.slice none 0 0,.slice none 0 0,.int .i64 0] 39 (0,0))).alloc (.cells #[.int .i64 0,.int .i64 0,.int .i64 0,.bool false,.int .i64 0,.slice none 0 0,.slice none 0 0,.int .i64 0] 39 (0,0)));obtain⟨Y,hY⟩:∃Y:Array A0,#[.int .i64 0,.int .i64 0,.int .i64 0,.bool false,.int .i64 0,.slice none 0 0,.slice none 0 0,.int .i64 0]=Y:=⟨_,rfl⟩;have Q:QwS w A Y wA:=by
  rw[<-a1,<-hA,<-hY];refine⟨BM (heap_alloc_new w _),?_,((Dn _ w).alloc (B9 _) _).alloc sV _,rfl,sV⟩;have:=heap_alloc_new (w.alloc (.cells #[.int .i64 0,.int .i64 0,.int .i64 0,.bool false,.int .i64 0,.slice none 0 0,.slice none 0 0,.int .i64 0] 39 (0,0))) (.cells #[.int .i64 0,.int .i64 0,.int .i64 0,.bool false,.int .i64 0,.slice none 0 0,.slice none 0 0,.int .i64 0] 39 (0,0))
  simpa using this
 have b4:wA.heap.size=A+2:=by rw[<-a1,<-hA];simp
 have b:(prog.info? 39).map (·.size)=some Y.size:=hY▸Tc;have I:Y.all (·.oneCell')=true:=hY▸tN;have cx:Y.size=Y.size:=rfl;have a2:=Dm a1;have b2:=Dm hA;have an:=Dm hY;clear a1 hA hY;by_cases h8:p%8=0
 case neg=>
  have K:=Dm (OH (by rw[am h8];decide:CR l p≠0));have bl:=Dm (am h8);have d8:((((p%8:Nat):Int)) != 0)=true:=uF;generalize p%8=m8 at bk d8;clear h8 am F B V cM
  go_enter func64,ntmps64
  go_wp2_with (first|(rw[a2.out,b2.out];with_reducible refine Pl rfl 39 _ rfl (A+1) rfl 39 Y (0,0) _ Q.zs Pk rfl b ?_)|(with_reducible refine AK rfl 39 _ _ rfl A Y Y rfl rfl 39 Q.res b rfl I ?_;intro w5 r d))
  refine Hb (B0 rfl _ _ A 39 _ (0,0) _ rfl r Pk rfl b) rfl ?_;exact JO (by rw[K.out,bl.out]) an.out rfl ((Q.low).grown d Wa0 Wav)
 have d8:((((p%8:Nat):Int)) != 0)=false:=by rw[h8];rfl
 have F:=fun h2=>F h8 h2;have B:=fun h2 h1=>B h8 h2 h1;have V:=fun h2 h1=>V h8 h2 h1;generalize p%8=m8 at bk d8;clear h8 am;by_cases h2:f=0
 case neg=>
  have K:=Dm (OH (by rw[F h2];exact h2:CR l p≠0));have bl:=Dm (F h2);have d2:(f != 0)=true:=uG;clear F B V h2
  exact Wfw
 subst h2;by_cases h1:m=0
 case neg=>
  have K:=Dm (OH (by rw[B rfl h1];decide:CR l p≠0));have bl:=Dm (B rfl h1);have d2:(m != 0)=true:=uD;clear F B V h1
  exact Wfw
 subst h1;have b8:=Dm (V rfl rfl);clear F B V;obtain⟨i0,hi,ae,af,ag⟩:=Ds YC;obtain⟨W,hW⟩:=Ah wA.heap.size;obtain⟨wB,au⟩:=Ah (wA.alloc (.cells #[.int .i64 8,.int .i64 2,.int .i64 3,.int .i64 3,.int .i64 1,.int .i64 4,.int .i64 5,.int .i64 1] 3 (0,0)));have co:QwW w A W Y wB:=by
  have D:Below wA.heap.size wA wB:=by rw[<-au];exact(Dn _ wA).alloc (B9 _) _
  exact⟨Q.below D,by rw[<-au,<-hW];exact heap_alloc_new wA _,sX,by rw[<-au,<-hW];simp⟩
 have b9:=Dm au;have c9:=Dm hW;clear au Q b4
 go_enter func64,ntmps64
 go_wp2_with fail
 rw[a2.out,b2.out];refine(cM _).mono ?_;rintro e u ⟨rfl,rfl⟩;clear cM
 go_wp2
 rw[b9.out]
 go_loopw [10,12,13] (fun t lv i wr=>∃j T:Nat,j<=8/\t=.int .i64 (T:Int)/\i=.int .i64 (j:Int)/\Hid (T=p+22+C1 j)/\T<=p+49/\wr.ownsRow (W+1) 3 1 lv j (LF (PT l (p+22) j))/\QwW w A W Y wr/\Hid (upS l (p+22) j=0)) (fun _ _ i _=>8-(RowKit.intOf i).toNat)
 case atStart=>exact⟨0,p+22,Do _,tP,rfl,Dm rfl,sX,Dj _ _ _ _,co,Dm rfl⟩
 case round=>
  clear co;obtain⟨j,T,hj,rfl,rfl,hT,bm,E,y,hU⟩:=hrel;by_cases av:j<8
  ·have t1:decide ((j:Int)<8)=true:=sU;have kw:=y.at av;obtain⟨n1,n2,n3⟩:=sG ⟨j,av⟩;simp only at n1 n2 n3;have bn:=hT.out;have bc:T+CS j=p+22+C1 (j+1):=by show _=p+22+(C1 j+CS j);omega
   have ah:T+CS j<=p+49:=sX;have a3:8*l.length<T+CS j->L8 l (p+22) j=2:=fun h=>UM sX;have aw:T+CS j<=8*l.length->L8 l (p+22) j=BX j (BP l (p+22) j):=fun h=>RQ sX;have hv:BP l (p+22) j=AB l T (CS j):=by unfold BP;rw[bn]
   have sn:=pA l (p+22) j;obtain⟨n,hn⟩:=Ah (CS j);rw[hn] at kw n1 n2 n3 bc ah a3 aw hv;obtain⟨v,a4⟩:=Ah (BP l (p+22) j);rw[a4] at aw hv sn;have ao:=Dm bc;have ap:=Dm sn;have bh:Hid (∀x,QwW w A W Y x->x.cell? ⟨W,j,none⟩=some (.int .i64 (n:Int))):=Dm fun x hx=>by rw[hx.at av,hn]
   have ab:=Dm (fun f (h:L8 l (p+22) j=f) h0=>Qgp b8.out av hU.out h h0);have ac:=Dm (fun(h:L8 l (p+22) j=0)=>((QV hU.out).trans h:upS l (p+22) (j+1)=0));clear hn a4 bn bc sn hT hU;by_cases J:8*s.size<T+n
   ·have K:=Dm (ab.out 2 (a3 sX) sY);have d2:decide ((S.size:Int)-(T:Int)<(n:Int))=true:=Waw;clear ab ac a3 aw hv J
    exact Wfu
   ·have d2:decide ((S.size:Int)-(T:Int)<(n:Int))=false:=Waw;have hc:=ba.out T n;have cc:=fun w=>bb.out T n w sX sX;rw[<-hv] at cc;have P:=aw sX;generalize (⟨(((A2 l).drop T).take n).toArray⟩:ByteArray)=C at hc cc;have ca:T+n<=S.size:=by have:=X.out;omega
    clear a3 aw hv
    go_wp2_with fail
    refine(cc _).mono ?_;rintro e u ⟨rfl,rfl⟩;clear cc hc;by_cases z:j=1
    ·have D:BX j v=if v=2 then 0 else 5:=by rw[z];exact Qq9 v
     have b1:((j:Int)==1)=true:=uE;have b3:((j:Int)==3)=false:=uC;have b5:((j:Int)==5)=false:=uC;have b7:((j:Int)==7)=false:=uC;have b6:((j:Int)==6)=false:=uC;by_cases o:v=2
     ·have N:=Dm (ac.out (P.trans (D.trans (Bb o))));have dv:((v:Int) != 2)=false:=by rw[o];rfl
      clear ab ac P D z o J
      exact Wft
     ·have K:=Dm (ab.out 5 (P.trans (D.trans (Ba o))) sY);have dv:((v:Int) != 2)=true:=uF;clear ab ac P D z o J
      exact Wfu
    by_cases z:j=3
    ·have D:BX j v=if DS (v:Int)=true then 0 else 5:=by rw[z];exact jK v
     have b1:((j:Int)==1)=false:=uC;have b3:((j:Int)==3)=true:=uE;have b5:((j:Int)==5)=false:=uC;have b7:((j:Int)==7)=false:=uC;have b6:((j:Int)==6)=false:=uC;have ax:=fun w=>cv.out (v:Int) w;have ay:=cw.out (v:Int);generalize (D1 (v:Int):Int)=M at ax ay;by_cases o:DS (v:Int)=true
     ·have N:=Dm (ac.out (P.trans (D.trans (Bb o))));have dv:(M==0)=false:=by rw[ay,o];rfl
      clear ab ac P D z o J ay
      go_wp2_with fail
      refine(ax _).mono ?_;rintro e y1 ⟨rfl,ai⟩;have a5:=y.below ai;have a6:=E.kept (BF ai none) (by cases hv:u12.ownBlock with|none=>exact .inl rfl|some g=>exact .inr sV);clear ai ax
      go_wp2_with (at_builtin;refine OM (v:=u12) (n:=j) (sl:=.tmp 101) (x:=.tmp 103) (K:=y1.heap.size) (c:=1) (y0:=(v:Int)) rfl rfl Ps hi ae rfl af ag ?d5 (a6.alloc _) ?d4 ?d1 ?d2 ?d3 ?_;(case d5=>kernel_rfl);(case d4=>kernel_rfl);(case d1=>go_cell);(case d2=>omega);(case d3=>(have:=a5.lt;simp;omega));intro v2 w2 G hg4;have aa:=(a5.grown (Hk _ (.cells #[.int .i64 (v:Int)] 3 (0,0)) none) (fun g h=>uA)).grown hg4 (fun g hg=>by have:=FT (a6.alloc (.cells #[.int .i64 (v:Int)] 3 (0,0))) g hg;omega);have kw:=bh.out _ aa;clear hg4 a6)
      go_roundw
      case rel=>exact⟨j+1,T+n,sX,tP,tP,ao,ah,Wax,aa,N⟩
      case measure=>simp[RowKit.intOf];omega
     ·have K:=Dm (ab.out 5 (P.trans (D.trans (Ba o))) sY);have dv:(M==0)=true:=by rw[ay];simpa using o
      clear ab ac P D z o J ay
      go_wp2_with fail
      refine(ax _).mono ?_;rintro e y1 ⟨rfl,ai⟩;have a5:=y.below ai;have a6:=E.kept (BF ai none) (by cases hv:u12.ownBlock with|none=>exact .inl rfl|some g=>exact .inr sV);clear ai ax
      go_wp2_with (first|(with_reducible refine Pl rfl 39 _ rfl (A+1) rfl 39 Y (0,0) _ a5.q.zs Pk rfl b ?_)|(with_reducible refine AK rfl 39 _ _ rfl A Y Y rfl rfl 39 a5.q.res b rfl I ?_;intro w5 r d))
      refine Hb (B0 rfl _ _ A 39 _ (0,0) _ rfl r Pk rfl b) rfl ?_;exact JO K.out an.out rfl ((a5.q.low).grown d (by have:=(a5.q.sep).1;have:=(a5.q.sep).2;omega) (by intro k hk;injection hk with hk;have:=(a5.q.sep).1;omega))
    by_cases z:j=5
    ·have D:BX j v=if v=0 then 0 else 6:=ZL (.inl z) v
     have b1:((j:Int)==1)=false:=uC;have b3:((j:Int)==3)=false:=uC;have b5:((j:Int)==5)=true:=uE;have b7:((j:Int)==7)=false:=uC;exact Wfx
    by_cases z:j=7
    ·have D:BX j v=if v=0 then 0 else 6:=ZL (.inr z) v
     have b1:((j:Int)==1)=false:=uC;have b3:((j:Int)==3)=false:=uC;have b5:((j:Int)==5)=false:=uC;have b7:((j:Int)==7)=true:=uE;exact Wfx
    by_cases z:j=6
    ·have D:BX j v=if v=0 then 9 else 0:=by rw[z];exact lD v
     have b1:((j:Int)==1)=false:=uC;have b3:((j:Int)==3)=false:=uC;have b5:((j:Int)==5)=false:=uC;have b7:((j:Int)==7)=false:=uC;have b6:((j:Int)==6)=true:=uE;by_cases o:v=0
     ·have K:=Dm (ab.out 9 (P.trans (D.trans (Bb o))) sY);have dv:((v:Int)==0)=true:=by rw[o];rfl
      clear ab ac P D z o J
      exact Wfu
     ·have N:=Dm (ac.out (P.trans (D.trans (Ba o))));have dv:((v:Int)==0)=false:=uC;clear ab ac P D z o J
      exact Wft
    have N:=Dm (ac.out (P.trans (Qj1 sX)));have b1:((j:Int)==1)=false:=uC;have b3:((j:Int)==3)=false:=uC;have b5:((j:Int)==5)=false:=uC;have b7:((j:Int)==7)=false:=uC;have b6:((j:Int)==6)=false:=uC;clear ab ac P J
    exact Wft
  ·obtain rfl:8=j:=sX;rw[show (Value.int .i64 ((8:Nat):Int))=.int .i64 8 from rfl];obtain⟨pl,cl,rfl,aj⟩:=OK (Wd l (p+22) 8) E;obtain⟨H,oL,rfl,cb,bo⟩:=aj.hold (by rw[Wd];omega);have bp:T=p+49:=hT.out;have cy:W+1<=H:=FT E H rfl;have bq:=Qt.1 hU.out 7 sX;have br:T<=8*s.size:=by have:=bq.1;rw[bj] at this;show T<=_;have e:p+22+C1 7+CS 7=p+49:=rfl;omega
   have ad:Hid (∀f,(BJ l 8 (p+49)).2.2=f->f≠0->shk l p=(EJ,p,f)):=Dm fun f hf h0=>by rw[SR b8.out hU.out (by rw[hf];exact h0),hf]
   have aq:Hid (∀L q,BJ l 8 (p+49)=(L,q,0)->shk l p=(JK l (p+22) L,q,0)):=Dm fun L q h=>by rw[Qx b8.out hU.out (by rw[h]),h]
   obtain⟨p0,h0⟩:∃x:Int,((BP l (p+22) 0:Nat):Int)=x:=⟨_,rfl⟩;obtain⟨p2,h2⟩:∃x:Int,((BP l (p+22) 2:Nat):Int)=x:=⟨_,rfl⟩;obtain⟨p3,h3⟩:∃x:Int,((BP l (p+22) 3:Nat):Int)=x:=⟨_,rfl⟩;obtain⟨p4,h4⟩:∃x:Int,((BP l (p+22) 4:Nat):Int)=x:=⟨_,rfl⟩;obtain⟨p6,h6⟩:∃x:Int,((BP l (p+22) 6:Nat):Int)=x:=⟨_,rfl⟩;have bd:Hid (∀x,x.heap[H]? =wr.heap[H]?->Y4k H oL p0 p2 p3 p4 p6 x):=Dm fun x hx=>by
    have g:=fun i (hi:i<8)=>(G4 (a:=⟨H,oL+i,none⟩) hx).trans (bo wr (Dn _ _) i (by rw[Wd];exact hi));refine⟨(g 0 sX).trans ?_,(g 2 sX).trans ?_,(g 3 sX).trans ?_,(g 4 sX).trans ?_,(g 6 sX).trans ?_⟩
    ·rw[<-h0];rfl
    ·rw[<-h2];rfl
    ·rw[<-h3];rfl
    ·rw[<-h4];rfl
    ·rw[<-h6];rfl
   have bi:Hid (∀L,JK l (p+22) L=⟨p0,p2,p3,p4==1,p6,L⟩):=Dm fun L=>by
    unfold JK;rw[h0,h2,h3,h6]
    congr 1
    rw[I7];simp only[Bj];omega
   obtain⟨cz,bf⟩:=Ah (wr.heap[H]? );rw[bf] at bd;obtain⟨bs,a7⟩:=Ah wr.heap.size;have bt:Hid (BJ l 8 (p+49)=(([]:List Int)++(BJ l (8-0) T).1,(BJ l (8-0) T).2)):=Dm (by rw[bp];rfl);have c1:W<bs:=by rw[<-a7];exact y.lt.2
   rw[a7] at cb;have cd:=Dm a7;have a8:bs<=wr.heap.size:=sX;clear hT bp bm hU bq aj bo E a7 h0 h2 h3 h4 h6 hj av
   go_wp2
   go_loopw [10,15] (fun t sv wz=>∃(q:Nat) (L:List Int),t=.int .i64 (q:Int)/\q<=8*s.size/\wz.ownsRow bs 3 1 sv L.length (LF L)/\QwW w A W Y wz/\wz.heap[H]? =cz/\L.length<=8/\Hid (BJ l 8 (p+49)=(L++(BJ l (8-L.length) q).1,(BJ l (8-L.length) q).2))/\bs<=wz.heap.size) (fun _ sv _=>10-dE sv)
   case atStart=>exact⟨T,[],rfl,br,Dj _ _ _ _,y,bf,Do _,bt,a8⟩
   case round=>
    clear y bt br a8 bf cd;obtain⟨q,L,rfl,hq,E,O,bg,c2,hR,a8⟩:=hrel;obtain⟨pa,cap,rfl,aj⟩:=OK rfl E;by_cases h1:8*s.size<q+1
    ·have K:=Dm (ad.out 2 (by rw[hR.out,Wf (by omega)]) sY);have d2:decide ((S.size:Int)-(q:Int)<1)=true:=Waw;clear ad aq bd bi hR h1 aj E bb
     exact Wfv
    ·have d2:decide ((S.size:Int)-(q:Int)<1)=false:=Waw;have ce:q<S.size:=by have:=X.out;omega
     have D:=ct.out q ce;have hd:=oY l q sX;rw[D] at hd;by_cases ak:S[q].toNat=48
     ·have cf:((S[q].toNat:Int)==48)=true:=by rw[ak];rfl
      have he:S[q]=48:=Hp.1 ak;have hz:AB l q 1=0:=hd.2 (by rw[he]);clear he;have cp:=Dm (aq.out L (q+1) (by rw[hR.out,R3 (by omega) hz,Fa]));have az:=bd.out _ bg;clear ad aq hR h1 hd D hz ak bb
      go_wp2_with fail
      obtain⟨Z,hZ⟩:∃Z:Array A0,#[.int .i64 p0,.int .i64 p2,.int .i64 p3,.bool (p4==1),.int .i64 p6,.slice pa L.length cap,.slice none 0 0,.int .i64 0]=Z:=⟨_,rfl⟩;have bu:(prog.info? 39).map (·.size)=some Z.size:=hZ▸Tc;have bv:Z.all (·.oneCell')=true:=hZ▸OI ⟨p0,p2,p3,p4==1,p6,L⟩ pa none L.length 0 cap 0 0;have cg:Y.size=Z.size:=by rw[<-an.out,<-hZ];rfl
      refine Pp (S:=Y4k H oL p0 p2 p3 p4 p6) tN ⟨az.c0,az.c2,az.c3,az.c4,az.c6⟩ (fun R=>?_);refine B2 0 (some 125) (v:=.slice (some ⟨H,oL,none⟩) 8 cl) rfl rfl R tN (fun x _=>Waq) ?_
      try simp only[A1]
      refine B2 1 (some 126) (v:=.pointer (some ⟨H,oL,none⟩)) rfl rfl R tN (fun x _=>Waq) ?_
      try simp only[A1]
      refine B2 2 (some 127) (v:=.int .i64 p0) rfl rfl R tN (fun x hx=>by have c0:=hx.c0;go_simp) ?_
      try simp only[A1]
      refine B2 3 (some 128) (v:=.slice (some ⟨H,oL,none⟩) 8 cl) rfl rfl R tN (fun x _=>Waq) ?_
      try simp only[A1]
      refine B2 4 (some 129) (v:=.pointer (some ⟨H,oL+2,none⟩)) rfl rfl R tN (fun x _=>Waq) ?_
      try simp only[A1]
      refine B2 5 (some 130) (v:=.int .i64 p2) rfl rfl R tN (fun x hx=>by have c0:=hx.c2;go_simp) ?_
      try simp only[A1]
      refine B2 6 (some 131) (v:=.slice (some ⟨H,oL,none⟩) 8 cl) rfl rfl R tN (fun x _=>Waq) ?_
      try simp only[A1]
      refine B2 7 (some 132) (v:=.pointer (some ⟨H,oL+3,none⟩)) rfl rfl R tN (fun x _=>Waq) ?_
      try simp only[A1]
      refine B2 8 (some 133) (v:=.int .i64 p3) rfl rfl R tN (fun x hx=>by have c0:=hx.c3;go_simp) ?_
      try simp only[A1]
      refine B2 9 (some 134) (v:=.slice (some ⟨H,oL,none⟩) 8 cl) rfl rfl R tN (fun x _=>Waq) ?_
      try simp only[A1]
      refine B2 10 (some 135) (v:=.pointer (some ⟨H,oL+4,none⟩)) rfl rfl R tN (fun x _=>Waq) ?_
      try simp only[A1]
      refine B2 11 (some 136) (v:=.int .i64 p4) rfl rfl R tN (fun x hx=>by have c0:=hx.c4;go_simp) ?_
      try simp only[A1]
      refine B2 12 (some 137) (v:=.bool (p4==1)) rfl rfl R tN (fun x _=>Waq) ?_
      try simp only[A1]
      refine B2 13 (some 138) (v:=.slice (some ⟨H,oL,none⟩) 8 cl) rfl rfl R tN (fun x _=>Waq) ?_
      try simp only[A1]
      refine B2 14 (some 139) (v:=.pointer (some ⟨H,oL+6,none⟩)) rfl rfl R tN (fun x _=>Waq) ?_
      try simp only[A1]
      refine B2 15 (some 140) (v:=.int .i64 p6) rfl rfl R tN (fun x hx=>by have c0:=hx.c6;go_simp) ?_
      try simp only[A1]
      refine B2 16 (some 141) (v:=.slice pa L.length cap) rfl rfl R tN (fun x _=>Waq) ?_
      try simp only[A1]
      refine B2 17 (some 142) (v:=.agg #[.int .i64 p0,.int .i64 p2,.int .i64 p3,.bool (p4==1),.int .i64 p6,.slice pa L.length cap,.slice none 0 0,.int .i64 0]) rfl rfl R tN (fun x _=>Waq) ?_
      try simp only[A1]
      refine B2 18 (some 143) (v:=.int .i64 ((q:Int)+1)) rfl rfl R tN (fun x _=>Waq) ?_
      try simp only[A1]
      refine Po (rs:=[19]) tN sV ?_;refine Pm rfl (fun K hK=>?_) Pn;refine(Bb tN).mpr ?_;have bw:wr.drew.heap[A]? =some (.cells Y 39 (0,0)):=O.q.res;refine Pq 39 (.tmp 4) (.tmp 142) rfl A Z tN Wa1 39 Y bw bu cg bv ?_;obtain⟨w5,a9⟩:=Ah (wr.drew.setRow A Z);have r:w5.heap[A]? =some (.cells Z 39 (0,0)):=by rw[<-a9];exact Es _ _ _ _ _ _ bw
      have d:wr.drew.grownBy w5 (some A):=by rw[<-a9];exact⟨rfl,rfl,rfl,by simp,fun k _ hk=>En _ _ _ _ (by intro e;exact hk (by rw[e]))⟩
      rw[a9];have c3:=O.q.sep;have c4:=O.lt.1;have ch:H<wr.heap.size:=sX;have c5:A≠H:=sX;have ci:Y4k H oL p0 p2 p3 p4 p6 w5:=bd.out _ ((d.block H ch sU).trans bg);refine hK.out _ _ ci (fun bx=>?_);clear hK K R a9;refine B2 20 (some 5) (v:=.int .i64 ((q:Int)+1)) rfl rfl bx tN (fun x _=>Waq) ?_
      try simp only[Act.put,Ao]
      refine B2 21 (some 6) (v:=.int .i64 0) rfl rfl bx tN (fun x _=>Waq) ?_
      try simp only[Act.put]
      refine Pr tN ?_ _
      go_wp2
      refine Hb (B0 rfl _ _ A 39 _ (0,0) _ rfl r Pk rfl bu) rfl ?_;have cj:=E.drew.kept d (by cases hv:(Value.slice pa L.length cap).ownBlock with|none=>exact .inl rfl|some g=>exact .inr (by have:=FT E g hv;show some g≠some A;intro e;injection e with e;omega));obtain⟨c6,cq,ck,bz⟩:=OK rfl cj;injection ck with e1 e2 e3;subst e1;have U:=O.q.low;refine⟨pa,cap,?_,?_,⟨d.os.trans U.os,d.tape.trans U.tape,d.output.trans U.output,Ef U.size d.size,fun k hk=>(d.block k (Bc hk U.size) sU).trans (U.block k hk)⟩,fun x hx=>?_⟩
      rotate_right
      ·rcases E.2 with ⟨e,_⟩|⟨g,cr,c7,e,c8,_⟩
       ·injection e with e1;rw[hx] at e1;cases e1
       ·injection e with e1;rw[hx] at e1;injection e1 with e1;rw[e1];show w.heap.size<=g;omega
      ·rw[cp.out,bi.out,<-hZ]
       rfl
      ·rw[cp.out,bi.out];exact bz
     ·have cf:((S[q].toNat:Int)==48)=false:=uC;have hz:AB l q 1≠0:=fun h=>by
       have:=hd.1 h;injection this with this;exact ak (by rw[this];rfl)
      by_cases hL:L.length=8
      ·have K:=Dm (ad.out 13 (by rw[hR.out,hL,Ci,Wj (by omega) hz]) sY);have d3:((L.length:Int)==8)=true:=by rw[hL];rfl
       clear ad aq bd bi hR h1 aj E hd D hz ak hL bb
       exact Wfv
      ·have d3:((L.length:Int)==8)=false:=uC;obtain⟨k,hk⟩:∃k,8-L.length=k+1:=⟨7-L.length,sX⟩;have al:=hR.out;rw[hk] at al;by_cases h8:8*s.size<q+1+8
       ·have K:=Dm (ad.out 2 (by rw[al,Vn (by omega) hz (by omega)]) sY);have d4:decide ((S.size:Int)-((q:Int)+1)<8)=true:=Waw;clear ad aq bd bi hR h1 aj E hd D hz ak hL al hk h8 bb
        exact Wfv
       ·have d4:decide ((S.size:Int)-((q:Int)+1)<8)=false:=Waw;have hc:=ba.out (q+1) 8;have cc:=fun w=>bb.out (q+1) 8 w sX sX;rw[R7 hz sX] at al;generalize (⟨(((A2 l).drop (q+1)).take 8).toArray⟩:ByteArray)=C at hc cc;generalize AB l (q+1) 8=v at cc al;have ca:q+1+8<=S.size:=by have:=X.out;omega
        have cm:Hid (BJ l 8 (p+49)=((L++[(v:Int)])++(BJ l (8-(L++[(v:Int)]).length) (q+9)).1,(BJ l (8-(L++[(v:Int)]).length) (q+9)).2)):=Dm (by
         rw[show 8-(L++[(v:Int)]).length=k by rw[B8];show 8-(L.length+1)=k;omega,al];simp)
        clear ad aq bd bi hR h1 aj hd D hz ak al hk bb
        go_wp2_with fail
        refine(cc _).mono ?_;rintro e u ⟨rfl,rfl⟩;clear cc hc
        go_wp2_with (at_builtin;refine OM (v:=.slice pa L.length cap) (n:=L.length) (sl:=.tmp 156) (x:=.tmp 163) (K:=wr.heap.size) (c:=1) (y0:=(v:Int)) rfl rfl Ps hi ae rfl af ag ?d5 (E.alloc _) ?d4 ?d1 ?d2 ?d3 ?_;(case d5=>kernel_rfl);(case d4=>kernel_rfl);(case d1=>go_cell);(case d2=>omega);(case d3=>(simp;omega));intro v2 w2 G hg4;have aa:=(O.grown (Hk _ (.cells #[.int .i64 (v:Int)] 3 (0,0)) none) (fun g h=>uA)).grown hg4 (fun g hg=>War);have b0:=(hg4.block H sU (by intro e;have:=FT (E.alloc (.cells #[.int .i64 (v:Int)] 3 (0,0))) H e.symm;omega)).trans (((Hk wr _ none).block H sX sV).trans bg);have cn:bs<=w2.heap.size:=Ef a8 (Ef sV hg4.size);obtain⟨pa2,cap2,a4,-⟩:=OK (l:=L++[(v:Int)]) (n:=L.length+1) sV (by rw[KX];exact G);subst a4;clear hg4 E)
        go_roundw
        case rel=>exact⟨q+9,L++[(v:Int)],tP,sX,by rw[B8,KX];exact G,aa,b0,by rw[B8];show L.length+1<=8;omega,cm,cn⟩
        case measure=>simp[dE];omega
end Go.Proofs.YtjjmalchelniiaaGreatDoor