/- No condition. -/
import Derived.Test.YtjjmalchelniiaaGreatDoorZpb
import Derived.Test.YtjjmalchelniiaaGreatDoorZpe
import Derived.Test.YtjjmalchelniiaaGreatDoorZpf
import Derived.Test.YtjjmalchelniiaaGreatDoorZph
import Derived.Test.YtjjmalchelniiaaGreatDoorZpp
import Derived.Test.YtjjmalchelniiaaGreatDoorZpq
import Derived.Test.YtjjmalchelniiaaGreatDoorZpt
import Derived.Test.YtjjmalchelniiaaGreatDoorZpu
import Derived.Test.YtjjmalchelniiaaGreatDoorZpv
import Derived.Deep.RegionWith
open Go.Proofs.Tryz
open Go renaming World->A5,Calls->A9,Addr->Aa,Ending->Ae,DataW->Ad
set_option maxHeartbeats 4000000
namespace Go.Proofs.YtjjmalchelniiaaGreatDoor
section
open Go.RowKit Go.Lib
theorem Wde{p:Prop}(h:p:=by
 exact⟨by rw[D7,h1.1,h2.1];rfl,wW⟩):p:=h
theorem Wdd{p:Prop}(h:p:=by
 go_enter func52,ntmps52
 go_wp2
 go_ret
 exact⟨AJ (by simp[AG,h3,h4]),rfl⟩):p:=h
theorem Wdc{p:Prop}(h:p:=by
 exact⟨0,j,Do _,Bz (Value.int .i64) (by have:=N.out;omega),m,Dm (by rw[ah.out];rfl),b,a,f⟩):p:=h
theorem Wdb{p:Prop}(h:p:=by
 go_wp2
 go_round
 case rel=>exact⟨i+1,sX,tP,Dm (g.out _ B.out rfl)⟩
 case measure=>simp[intOf];omega):p:=h
theorem Wda{p:Prop}(h:p:=by
 go_enter func255,Ld
 go_wp2_with fail
 refine g.mono ?_;rintro e u ⟨rfl,a,c⟩
 go_wp2
 go_ret2
 exact P5 F.out a (fun _=>rfl) c):p:=h
theorem Wc9{p:Prop}(h:p:=by
 go_enter func229,ntmps229
 go_wp2_with fail
 refine(FP _ _ _ _ ((n:Int)+1) hr).mono ?_;rintro e j ⟨rfl,c⟩;rw[A.out]
 go_wp2
 go_ret2
 exact NQ (n:=0) wS (hr.below c) (NV c rb)):p:=h
theorem Wc8{p:Prop}(h:p:=by
 clear E j hl hr k d f h q g m n p c
 go_enter func291,ntmps291
 go_wp2
 exact Is (It rfl _ _ w.heap.size 153 _ (0,0) _ rfl (A _) Kz rfl tN) rfl ⟨by rw[t.out,x.out,u.out,s.out,y.out],i _⟩):p:=h
theorem Wc7{p:Prop}(h:p:=by
 go_enter func255,Ld
 go_wp2_with fail
 refine g.mono ?_;rintro e u ⟨rfl,a,c⟩
 go_wp2
 go_ret2
 exact P5 F.out a (fun h=>uA) c):p:=h
theorem Wc6{p:Prop}(h:p:=by
 injection h with h1 h2;injection h1 with h1 h3;injection h3 with h3 h4;injection h2 with h2 h5;omega):p:=h
theorem Wc5{p:Prop}(h:p:=by
 have m:=Dm (b.trans (a.symm.trans hg));clear b a
 go_wp2_with fail
 refine hc.mono ?_;rintro e A ⟨rfl,c⟩;have d:=(o.trans (c.mono s)).drew
 go_wp2
 go_region
 go_wp2
 go_ret2
 exact⟨.inl ⟨i,f,m.out,rfl⟩,d⟩):p:=h
theorem Wc4{p:Prop}(h:p:=by
 have m:=Dm (b.trans (a.symm.trans hg));clear b a
 go_wp2_with fail
 refine hc.mono ?_;rintro e A ⟨rfl,c⟩;have d:=(o.trans (c.mono s)).drew
 go_wp2
 go_region
 go_wp2
 go_roundw
 case rel=>exact⟨i+1,sX,tP,d,Dm (l.out _ m.out rfl)⟩
 case measure=>simp[intOf];omega):p:=h
theorem Wc3{p:Prop}(h:p:=by
 have e1:=I.out r q;have e2:=X.out r;have e3:=W.out r q;have Y:=Dm (show x-D r+sm (r+1)=j by have:=c.out;have:=J.out;omega);have s:D r<=x:=by have:=c.out;have:=J.out;omega
 clear e1 e2;generalize D r=y at hc Y s e3;have t1:decide (y<=x)=true:=by simpa using s
 clear c
 go_wp2_with fail
 refine hc.mono ?_;rintro e P ⟨rfl,rfl⟩
 go_wp2_with fail
 refine hc.mono ?_;rintro e P ⟨rfl,rfl⟩
 go_wp2
 go_roundw
 case rel=>exact⟨r+1,x-y,sX,tP,sX,Y,wK,((D3 wr ⟨B+1,1,none⟩ _).block B g sZ).trans a,O.setCell sZ _⟩
 case measure=>simp[intOf];omega):p:=h
theorem Wc2{p:Prop}(h:p:=by
 go_enter func229,ntmps229
 go_wp2_with fail
 refine(FP _ _ _ _ ((n:Int)+1) hr).mono ?_;rintro e j ⟨rfl,c⟩;rw[A.out];have f:=hr.below c;have c2:j.cell? ⟨3,i,none⟩=some (.int .i64 (n:Int)):=by rw[(E.out _ c i H.out).2,G.out]
 have B:=NV c rb;clear hr c1 c;have I:AE j.drew rb s p:=f;have c3:j.drew.cell? ⟨3,i,none⟩=some (.int .i64 (n:Int)):=c2;have K:p<=1125899906842624:=by have:=f.2;omega
 go_wp2_with fail
 have L:IntKind.i64.wrap ((p:Int)+n)=(p:Int)+n:=Kd _ sX;have M:IntKind.i64.wrap ((p:Int)+n+1)=(p:Int)+n+1:=Kd _ sX
 go_region_with (first|(go_at_call 28;refine(EF _ _ _ _ wY).mono ?_;rintro e N ⟨rfl,rfl⟩)|(go_at_call 91;refine(GQ _ _ _ _ _ wY sX sX).mono ?_;rintro e N ⟨rfl,r,C⟩))
 all_goals
  rw[Q] at r;have hg4:=AP B (AP (KU j _) C)
  go_wp2
  go_ret2
  exact NQ wS r hg4):p:=h
theorem Wc1{p:Prop}(h:p:=by
 refine(FP _ _ _ _ _ D).mono ?_;rintro e w2 ⟨rfl,t⟩;rw[A.out];have b:=k.trans (t.mono E);have f:=b.size;have u:=T.out _ b;clear k t E D
 go_wp2_with fail
 refine(H _ u).mono ?_;rintro e w3 ⟨⟨i,hi,a,rfl⟩|⟨I,rfl⟩,g⟩
 ·have d:=b.trans (g.mono f);have z:=d.size;have B:=T.out _ d;rw[<-R.out] at a;clear b g f u;by_cases hl:AS i<=n
  ·obtain⟨f1,f2⟩:=WR L.out hi a j.out hl;have l:=Dm f1;have P:=Dm f2;have hc:=C i hi _ B;have W:=Dm hi;have c:(AS i:Int)<=(n:Int):=sX;rw[S.out] at c;clear f1 f2 a hl hi;obtain⟨y,J⟩:=Ah (AS i);rw[J] at hc c l P;have Q:=Dm J;clear J
   go_wp2_with fail
   refine hc.mono ?_;rintro e X ⟨rfl,h⟩
   go_wp2
   go_ret2
   exact⟨.inl ⟨i,W.out,by rw[Q.out];exact l.out,by rw[Q.out];exact P.out,rfl⟩,d.trans (h.mono z)⟩
  ·have l:=Dm (dY L.out hi a j.out sX);have hc:=C i hi _ B;have c:(n:Int)<(AS i:Int):=sX;rw[S.out] at c;generalize AS i=y at hc c;clear a hl hi
   go_wp2_with fail
   refine hc.mono ?_;rintro e X ⟨rfl,h⟩
   go_wp2
   go_ret2
   exact⟨.inr ⟨2,sY,l.out,rfl⟩,d.trans (h.mono z)⟩
 ·have l:=Dm (Yp L.out (fun i hi=>by rw[R.out];exact I i hi) j.out)
  go_wp2
  go_ret2
  exact⟨.inr ⟨3,sY,l.out,rfl⟩,b.trans (g.mono f)⟩):p:=h
theorem vX{p:Prop}(h:p:=by rw[R.out];exact((((aa.out _).setCell (by simp) _).setCell (B9 _) _).setCell (B9 _) _).setCell (B9 _) _):p:=h
theorem vY{p:Prop}(h:p:=by simp only;omega):p:=h
theorem vZ{p:Prop}(h:p:=by rw[R.out];exact(((aa.out _).setCell (B9 _) _).setCell (B9 _) _).setCell (B9 _) _):p:=h
theorem wH{p:Prop}(h:p:=by rw[Y.out];exact F.out):p:=h
theorem wJ{p:Prop}(h:p:=by rw[show (255:Int)=2^8-1 by decide,LQ _ 8 (by omega)];omega):p:=h
theorem wK{p:Prop}(h:p:=by rw[show ((r+1:Nat):Int)=(r:Int)+1 by omega];exact U2 b _):p:=h
theorem wL{p:Prop}(h:p:=by rw[<-l];exact((Dn _ w).alloc (B9 _) _).alloc (by simp) _):p:=h
theorem wM{p:Prop}(h:p:=by have:=c.out;have:=J.out;have:=ai.out;have:=ab.out;omega):p:=h
theorem wO{p:Prop}(h:p:=by have:=(X.out _ D).lt;have:=(X.out _ (Dn _ W)).lt;omega):p:=h
theorem wS{p:Prop}(h:p:=by rw[m.out];exact F.out):p:=h
theorem wV{p:Prop}(h:p:=by rw[Z.out];rfl):p:=h
theorem wW{p:Prop}(h:p:=by rw[B8];omega):p:=h
theorem wY{p:Prop}(h:p:=by assumption):p:=h
abbrev Kz:=@underlying153
abbrev L0:=@decide_eq_true_eq
abbrev L3:=@Exit.noGoto_ret
abbrev L4:=@Bool.not_eq_true'
abbrev L6:=@underlying72
abbrev L7:=@List.mem_of_getElem?
abbrev L9:=@Int.natCast_inj
abbrev La:=@List.getElem?_eq_some_iff
abbrev Lb:=@Bool.and_true
abbrev Lc:=@Nat.lt_trans
abbrev Ld:=@ntmps255
theorem iP:∀i,i<103->2<=AS i:=uB
theorem oK:∀last:Bool,∀run,run<41->1<=C5 last run->∀r,r<run->1<=C5 last r:=uB
theorem Qn8 (v r:Nat)(h:v%2=r):bits .and .i64 (v:Int) 1=(r:Int):=by rw[SF];omega
theorem Qav (p v:Nat)(hp:p<102)(w:A5)(ht:BH w):A9 prog 290 #[.int .i64 (p:Int),.int .i64 (v:Int)] w fun e w'=>e=.returned (NC (NP (evT p) (v%2==1)))/\Below w.heap.size w w':=by
 obtain⟨⟨h1,h2,h3⟩,h4,h5,h6⟩:=UK p hp;obtain⟨d,run,i,he⟩:∃d run i,evT p=(d,run,i):=⟨_,_,_,rfl⟩;rw[he] at h1 h2 h3 h4 h5 h6 ⊢;simp only at h1 h2 h3 h4 h5 h6;have K:=Q9.1 h1;unfold plT at h2;have G:=fun(r:Nat) (hr:r<=run) (x:A5) (L:BH x)=>Wr d r sX x L;have hpos:=fun(r:Nat) (hr:r<run)=>oK d run h3 sX r hr;have k:=fun(r:Nat) (hr:r<run)=>Qig d (show r+1<=run by omega);have H:∀r,EI d (r+1)=EI d r+C5 d r:=fun r=>rfl;have S:EI d 0=0:=rfl;obtain⟨r1,M⟩:=Ah (v%2);have T:r1=0\/r1=1:=sX;have E:=Dm (Qn8 v r1 M);rw[M];obtain⟨B,l⟩:=Ah w.heap.size;obtain⟨j,F⟩:∃j,p=H2 d+j:=⟨p-H2 d,sX⟩;have U:j=EI d run+(i-1):=sX;generalize ac:EI d=sm at *;generalize ad:C5 d=D at *;have V:=Dm G;have W:=Dm hpos;have I:=Dm k;have X:=Dm H;have ah:=Dm S;have J:=Dm U;have R:=Dm l;have ai:=Dm K.2;have ab:=Dm K.1;have aj:=Dm (show i=j-sm run+1 by omega);have m:j<=102:=sX;clear he h1 h2 G hpos k H S U K ac ad M h5;cases d with
 |false=>
  have t0:decide (58<=(p:Int))=false:=by rw[Gd];have:=of_decide_eq_false h4.symm;omega
  have n:(p:Int)=0+(j:Int):=by rw[F];simp[H2]
  have f:Below B w ((w.alloc (.cells #[.bool false,.int .i64 0,.int .i64 0] 153 (0,0))).alloc (.cells #[.bool false,.int .i64 0,.int .i64 0] 153 (0,0))):=wL;have a:((w.alloc (.cells #[.bool false,.int .i64 0,.int .i64 0] 153 (0,0))).alloc (.cells #[.bool false,.int .i64 0,.int .i64 0] 153 (0,0))).heap[B]? =some (BD false 0 0):=by rw[<-l];exact heap_alloc2_old w _ _
  have b:((w.alloc (.cells #[.bool false,.int .i64 0,.int .i64 0] 153 (0,0))).alloc (.cells #[.bool false,.int .i64 0,.int .i64 0] 153 (0,0))).heap[B+1]? =some (BD false 0 0):=by rw[<-l];exact heap_alloc2_new w _ _
  have ae:=Dm (fun(x:A5) (L:Below B w x)=>(ht.below (by rw[l];exact L):BH x));have N:=Dm n;clear ht l h4 F n
  go_enter func290,ntmps290
  go_wp2
  rw[R.out];generalize (w.alloc (.cells #[.bool false,.int .i64 0,.int .i64 0] 153 (0,0))).alloc (.cells #[.bool false,.int .i64 0,.int .i64 0] 153 (0,0))=w2 at f a b ⊢
  go_loopw [0] (fun u wr=>∃r x:Nat,r<=run/\u=.int .i64 x/\x<=102/\Hid (x+sm r=j)/\wr.heap[B+1]? =some (BD false r 0)/\wr.heap[B]? =some (BD false 0 0)/\Below B w wr) (fun u _=>(intOf u).toNat)
  case atStart=>exact Wdc
  case round=>
   clear f a b;obtain⟨r,x,hr,rfl,L,c,b,a,O⟩:=hrel;obtain⟨c0,c1,c2,f0,f1,f2⟩:=CI b;obtain⟨d0,d1,d2,k0,k1,k2⟩:=CI a;have g:B<wr.heap.size:=(E9.1 a).1;have hc:=V.out r hr _ (ae.out _ O);by_cases q:r<run
   ·exact Wc3
   ·obtain rfl:r=run:=sX;have t:x<D r:=wM;have z:(x:Int)+1=(i:Int):=by have:=c.out;have:=J.out;have:=ab.out;omega
    generalize D r=y at hc t;have t1:decide (y<=x)=false:=tO;have Z:=Dm z;clear z;have A:∀u,Below B w (wr.setCell ⟨B+1,2,none⟩ u):=fun u=>O.setCell sZ _;have h:∀u,(wr.setCell ⟨B+1,2,none⟩ u).heap[B]? =some (BD false 0 0):=fun u=>((D3 wr ⟨B+1,2,none⟩ u).block B g sZ).trans a;have C:∀u Q,((wr.setCell ⟨B+1,2,none⟩ u).setCell ⟨B+1,2,none⟩ Q).heap[B]? =some (BD false 0 0):=fun u Q=>((D3 (wr.setCell ⟨B+1,2,none⟩ u) ⟨B+1,2,none⟩ Q).block B (Bc g (D3 wr ⟨B+1,2,none⟩ u).size) sZ).trans (h u);have aa:=Dm A;have af:=Dm h;have ag:=Dm C;clear A h C;rcases T with rfl|rfl
    ·have g1:(bits .and .i64 (v:Int) 1==1)=false:=by rw[E.out];rfl
     go_wp2_with fail
     refine hc.mono ?_;rintro e P ⟨rfl,rfl⟩
     go_wp2
     exact Is (It rfl _ _ B 153 _ (0,0) _ rfl (B3 (o:=2) (.int .i64 ((x:Int)+1)) (B3 (o:=1) (.int .i64 (r:Int)) (B3 (o:=0) (.bool false) (af.out _)))) Kz rfl tN) rfl ⟨wV,vZ⟩
    ·have g1:(bits .and .i64 (v:Int) 1==1)=true:=by rw[E.out];rfl
     go_wp2_with fail
     refine hc.mono ?_;rintro e P ⟨rfl,rfl⟩
     go_wp2
     exact Is (It rfl _ _ B 153 _ (0,0) _ rfl (B3 (o:=2) (.int .i64 (-((x:Int)+1))) (B3 (o:=1) (.int .i64 (r:Int)) (B3 (o:=0) (.bool false) (ag.out _ _)))) Kz rfl tN) rfl ⟨wV,vX⟩
 |true=>
  have t0:decide (58<=(p:Int))=true:=by rw[Fg];have:=Fm h4.symm;omega
  have n:(p:Int)=58+(j:Int):=by rw[F];simp[H2]
  have f:Below B w ((w.alloc (.cells #[.bool false,.int .i64 0,.int .i64 0] 153 (0,0))).alloc (.cells #[.bool true,.int .i64 0,.int .i64 0] 153 (0,0))):=wL;have a:((w.alloc (.cells #[.bool false,.int .i64 0,.int .i64 0] 153 (0,0))).alloc (.cells #[.bool true,.int .i64 0,.int .i64 0] 153 (0,0))).heap[B]? =some (BD false 0 0):=by rw[<-l];exact heap_alloc2_old w _ _
  have b:((w.alloc (.cells #[.bool false,.int .i64 0,.int .i64 0] 153 (0,0))).alloc (.cells #[.bool true,.int .i64 0,.int .i64 0] 153 (0,0))).heap[B+1]? =some (BD true 0 0):=by rw[<-l];exact heap_alloc2_new w _ _
  have ae:=Dm (fun(x:A5) (L:Below B w x)=>(ht.below (by rw[l];exact L):BH x));have N:=Dm n;clear ht l h4 F n
  go_enter func290,ntmps290
  go_wp2
  rw[R.out];generalize (w.alloc (.cells #[.bool false,.int .i64 0,.int .i64 0] 153 (0,0))).alloc (.cells #[.bool true,.int .i64 0,.int .i64 0] 153 (0,0))=w2 at f a b ⊢
  go_loopw [0] (fun u wr=>∃r x:Nat,r<=run/\u=.int .i64 x/\x<=102/\Hid (x+sm r=j)/\wr.heap[B+1]? =some (BD true r 0)/\wr.heap[B]? =some (BD false 0 0)/\Below B w wr) (fun u _=>(intOf u).toNat)
  case atStart=>exact Wdc
  case round=>
   clear f a b;obtain⟨r,x,hr,rfl,L,c,b,a,O⟩:=hrel;obtain⟨c0,c1,c2,f0,f1,f2⟩:=CI b;obtain⟨d0,d1,d2,k0,k1,k2⟩:=CI a;have g:B<wr.heap.size:=(E9.1 a).1;have hc:=V.out r hr _ (ae.out _ O);by_cases q:r<run
   ·exact Wc3
   ·obtain rfl:r=run:=sX;have t:x<D r:=wM;have z:(x:Int)+1=(i:Int):=by have:=c.out;have:=J.out;have:=ab.out;omega
    generalize D r=y at hc t;have t1:decide (y<=x)=false:=tO;have Z:=Dm z;clear z;have A:∀u,Below B w (wr.setCell ⟨B+1,2,none⟩ u):=fun u=>O.setCell sZ _;have h:∀u,(wr.setCell ⟨B+1,2,none⟩ u).heap[B]? =some (BD false 0 0):=fun u=>((D3 wr ⟨B+1,2,none⟩ u).block B g sZ).trans a;have C:∀u Q,((wr.setCell ⟨B+1,2,none⟩ u).setCell ⟨B+1,2,none⟩ Q).heap[B]? =some (BD false 0 0):=fun u Q=>((D3 (wr.setCell ⟨B+1,2,none⟩ u) ⟨B+1,2,none⟩ Q).block B (Bc g (D3 wr ⟨B+1,2,none⟩ u).size) sZ).trans (h u);have aa:=Dm A;have af:=Dm h;have ag:=Dm C;clear A h C;rcases T with rfl|rfl
    ·have g1:(bits .and .i64 (v:Int) 1==1)=false:=by rw[E.out];rfl
     go_wp2_with fail
     refine hc.mono ?_;rintro e P ⟨rfl,rfl⟩
     go_wp2
     exact Is (It rfl _ _ B 153 _ (0,0) _ rfl (B3 (o:=2) (.int .i64 ((x:Int)+1)) (B3 (o:=1) (.int .i64 (r:Int)) (B3 (o:=0) (.bool true) (af.out _)))) Kz rfl tN) rfl ⟨wV,vZ⟩
    ·have g1:(bits .and .i64 (v:Int) 1==1)=true:=by rw[E.out];rfl
     go_wp2_with fail
     refine hc.mono ?_;rintro e P ⟨rfl,rfl⟩
     go_wp2
     exact Is (It rfl _ _ B 153 _ (0,0) _ rfl (B3 (o:=2) (.int .i64 (-((x:Int)+1))) (B3 (o:=1) (.int .i64 (r:Int)) (B3 (o:=0) (.bool true) (ag.out _ _)))) Kz rfl tN) rfl ⟨wV,vX⟩
theorem Y1g (v:Nat)(w:A5):A9 prog 291 #[.int .i64 (v:Int)] w fun e B=>e=.returned (NC (E5 v))/\Below w.heap.size w B:=by
 obtain⟨a,j⟩:∃a:Nat,v / 256=a:=⟨_,rfl⟩;obtain⟨l,hl⟩:∃l:Nat,v%256=l:=⟨_,rfl⟩;obtain⟨r,hr⟩:∃r:Nat,a%64=r:=⟨_,rfl⟩;obtain⟨b,k⟩:∃b:Nat,a / 64%2=b:=⟨_,rfl⟩;have d:v / 256%64=r:=by rw[j,hr]
 have f:v / 16384%2=b:=by rw[<-k,<-j,Dw]
 have E:=Dm (show NC (E5 v)=.agg #[.bool (b==1),.int .i64 (r:Int),.int .i64 (if 127<l then (l:Int)-256 else (l:Int))] by unfold NC E5;simp only[d,f,hl]);rw[E.out];have h:bits .and .i64 (v:Int) 255=(l:Int):=wJ;have q:(v:Int) / 2^8=(a:Int):=sX;have g:(v:Int) / 256=(a:Int):=sX;have m:bits .and .i64 (a:Int) 63=(r:Int):=by rw[ZM];omega
 have n:bits .and .i64 ((a:Int) / 64) 1=(b:Int):=by rw[SF];omega
 have p:((b:Int)==1)=(b==1):=by rw[Jc,Bj,Bj];omega
 have s:=Dm h;have t:=Dm g;have u:=Dm m;have x:=Dm n;have y:=Dm p;have z:l<256:=sX;have i:∀o,Below w.heap.size w (w.alloc o):=fun o=>(Dn _ w).alloc (B9 _) o;have A:∀cs,(w.alloc (.cells cs 153 (0,0))).heap[w.heap.size]? =some (.cells cs 153 (0,0)):=fun cs=>heap_alloc_new w _;by_cases c:127<l
 ·have t0:decide (127<bits .and .i64 (v:Int) 255)=true:=by rw[h];simp;omega
  have C:0<=bits .and .i64 (v:Int) 255:=sX;have r1:bits .and .i64 (v:Int) 255<=255:=sX;rw[Bb c];exact Wc8
 ·have t0:decide (127<bits .and .i64 (v:Int) 255)=false:=by rw[h];simp;omega
  have C:0<=bits .and .i64 (v:Int) 255:=sX;have r1:bits .and .i64 (v:Int) 255<=255:=sX;rw[Ba c];exact Wc8
theorem QY (y m r k:Nat)(hm:m=2^k)(h:r<m)(c:m*y+r<4294967296):bits .or .i64 ((y:Int)*(m:Int)) (r:Int)=((m*y+r:Nat):Int):=by
 have a:=Cm (i:=k) (b:=r) (by rw[<-hm];exact h) y;rw[show (y:Int)*(m:Int)=((m*y:Nat):Int) by rw[Int.mul_comm];simp];show IntKind.i64.wrap ((BitVec.ofInt 64 ((m*y:Nat):Int) ||| BitVec.ofInt 64 ((r:Nat):Int)).toNat:Int)=_;rw[C7,C7,D9,C8,C8,Bq sX,Bq sX];rw[<-hm] at a;rw[<-a,Cr];omega
theorem iT (last:Bool)(r:Nat)(c:Int)(hr:r<64)(hl:-128<=c/\c<=127)(w:A5)(R:BH w):A9 prog 224 #[.agg #[.bool last,.int .i64 (r:Int),.int .i64 c]] w fun e w'=>
  e=.returned (.tuple #[.int .i64 (DO last r c:Nat),.int .i64 (DI last r c:Nat)])/\Below w.heap.size w w':=by
 have j:=fun x g=>X5 last r c hr hl x g;have J:=Dm (fun(x:A5) (g:Below w.heap.size w x)=>(R.below g:BH x));obtain⟨a,D⟩:∃a:Nat,c.natAbs=a:=⟨_,rfl⟩;rw[D] at j;cases hin:inT last r a with
 |true=>
  obtain⟨p,o⟩:=Ah (plT last r a);have S:p<102:=by rw[<-o];exact PP hr hin
  have K:=Dm (show DO last r c=2*DM p+(if c<0 then 1 else 0) by unfold DO;rw[D,hin,Bb rfl,o]);have L:=Dm (show DI last r c=AS p+1 by unfold DI;rw[D,hin,Bb rfl,o]);rw[hin,Bb rfl,o] at j;have i:=fun x g=>QX p sX x g;have m:=fun x g=>TO p sX x g;rw[Ba sX] at m;rw[K.out,L.out];obtain⟨b0,b1,b2,b3⟩:=ID p sX;have q:=fun(b:Bool) x=>Yx b x;obtain⟨s,hs⟩:∃s:Bool,decide (c<0)=s:=⟨_,rfl⟩;have ho:=QY (DM p) 2 s.toNat 1 rfl (by cases s <;> decide) (by cases s <;> simp <;> omega);have E:(if c<0 then 1 else 0:Nat)=s.toNat:=by rw[<-hs];by_cases h:c<0 <;> simp[h]
  rw[E];generalize DM p=x at i b3 ho ⊢;generalize AS p=y at i m b0 b1 ⊢;have O:=Dm (show bits .or .i64 ((x:Int)*2) (s.toNat:Int)=_ from ho);have ag:=Dm E;have k:Below w.heap.size w (w.alloc (.cells #[.bool last,.int .i64 (r:Int),.int .i64 c] 153 (0,0))):=(Dn _ w).alloc (B9 _) _;have t:=J.out _ k;have M:∀x,Below (w.heap.size+1) (w.alloc (.cells #[.bool last,.int .i64 (r:Int),.int .i64 c] 153 (0,0))) x->x.heap[w.heap.size]? =some (BD last r c):=fun x g=>(g.block w.heap.size sX).trans (heap_alloc_new w _);have T:=Dm M;have u:(w.alloc (.cells #[.bool last,.int .i64 (r:Int),.int .i64 c] 153 (0,0))).heap.size=w.heap.size+1:=sZ;have N:=Dm u;clear K L hin D o R ho b2 E M u
  go_enter func224,ntmps224
  go_wp2_with fail
  refine(j _ t).mono ?_;rintro e w1 ⟨rfl,d⟩;rw[N.out] at d;have f:=k.trans (d.mono sX)
  go_wp2_with fail
  refine(i _ (J.out _ f)).mono ?_;rintro e F ⟨rfl,l⟩;have G:=f.size;have v:=d.trans (l.mono (by have:=d.size;rw[N.out] at this;exact this));have n:=f.trans (l.mono G);obtain⟨c0,c1,c2,_,_,_⟩:=CI (T.out _ v);have H:=J.out _ n;clear d f l v j i t k
  go_wp2_with fail
  refine(q _ _).mono ?_;rintro e w3 ⟨rfl,rfl⟩
  go_wp2_with fail
  refine(m _ H).mono ?_;rintro e w4 ⟨rfl,A⟩
  go_wp2
  go_ret2
  exact⟨VC O.out rfl,n.trans (A.mono n.size)⟩
 |false=>
  have K:=Dm (show DO last r c=((6+last.toNat)*64+r)*256+(c%256).toNat by unfold DO;rw[D,hin,Ba sY]);have L:=Dm (show DI last r c=22 by unfold DI;rw[D,hin,Ba sY]);rw[hin,Ba sY] at j;have i:=fun x g=>QX 102 sX x g;have m:=fun x g=>TO 102 sX x g;rw[Bb rfl] at m;rw[show DM 102=3 by decide +kernel] at i;rw[K.out,L.out];have q:=fun x=>Yx last x;obtain⟨s,hs⟩:=Ah ((c%256).toNat);have I:s<256:=sX;have B:bits .and .i64 c 255=(s:Int):=wJ;have U:=QY 3 2 last.toNat 1 rfl (by cases last <;> decide) (by cases last <;> simp);obtain⟨y,V⟩:=Ah (6+last.toNat);rw[show 2*3+last.toNat=y by omega] at U;have ac:y<=7:=by rw[<-V];cases last <;> decide
  have W:=QY y 64 r 6 rfl hr sX;have X:=QY (64*y+r) 256 s 8 rfl I sX;rw[hs,V,show (y*64+r)*256+s=256*(64*y+r)+s by omega];obtain⟨z,hz⟩:=Ah (64*y+r);rw[hz] at W X ⊢;have Y:z<512:=sX;have ad:=Dm (show bits .or .i64 6 (last.toNat:Int)=(y:Int) from U);have ae:=Dm (show bits .or .i64 ((y:Int)*64) (r:Int)=(z:Int) from W);have af:=Dm (show bits .or .i64 ((z:Int)*256) (s:Int)=_ from X);have Z:=Dm B;have k:Below w.heap.size w (w.alloc (.cells #[.bool last,.int .i64 (r:Int),.int .i64 c] 153 (0,0))):=(Dn _ w).alloc (B9 _) _;have t:=J.out _ k;have M:∀x,Below (w.heap.size+1) (w.alloc (.cells #[.bool last,.int .i64 (r:Int),.int .i64 c] 153 (0,0))) x->x.heap[w.heap.size]? =some (BD last r c):=fun x g=>(g.block w.heap.size sX).trans (heap_alloc_new w _);have T:=Dm M;have u:(w.alloc (.cells #[.bool last,.int .i64 (r:Int),.int .i64 c] 153 (0,0))).heap.size=w.heap.size+1:=sZ;have N:=Dm u;clear K L hin D R M u hs B U W X V hz
  go_enter func224,ntmps224
  go_wp2_with fail
  refine(j _ t).mono ?_;rintro e w1 ⟨rfl,d⟩;rw[N.out] at d;have f:=k.trans (d.mono sX)
  go_wp2_with fail
  refine(i _ (J.out _ f)).mono ?_;rintro e F ⟨rfl,l⟩;have G:=f.size;have v:=d.trans (l.mono (by have:=d.size;rw[N.out] at this;exact this));have n:=f.trans (l.mono G);obtain⟨c0,c1,c2,_,_,_⟩:=CI (T.out _ v);have H:=J.out _ n;clear d f l v j i t k
  go_wp2_with fail
  refine(q _).mono ?_;rintro e w3 ⟨rfl,rfl⟩;have p1:=ad.out;have p2:=ae.out;have p3:=Z.out
  go_wp2_with fail
  have ab:BH F.drew:=H;have C:Below w.heap.size w F.drew:=n.drew;have P:F.drew.cell? ⟨w.heap.size,2,none⟩=some (.int .i64 c):=c2;have aa:w.heap.size<F.drew.heap.size:=J2 _ ⟨w.heap.size,2,none⟩ P;have Q:=Dm (fun(x:A5) (g:Below F.drew.heap.size F.drew x)=>((g.cell (p:=⟨w.heap.size,2,none⟩) aa).trans P:x.cell? ⟨w.heap.size,2,none⟩=some (.int .i64 c)));have sw:IntKind.i64.wrap ((z:Int)*256)=(z:Int)*256:=Kd _ sX
  go_region_with (go_at_call 236;refine(m _ wY).mono ?_;rintro e w4 ⟨rfl,A⟩;have c4:=Q.out _ A)
  all_goals
   go_wp2
   go_ret2
   exact⟨VC af.out rfl,C.trans (A.mono C.size)⟩
theorem Th (last:Bool)(r:Nat)(a:Int)(hr:r<64):3<=DI last r a/\DI last r a<=22/\DO last r a<2^DI last r a:=by
 unfold DI DO;cases hin:inT last r a.natAbs with
 |true=>
  simp only[Jw];obtain⟨b,c,b2,_⟩:=ID (plT last r a.natAbs) (Lc (PP hr hin) sY);have b4:=iP _ (Lc (PP hr hin) (show 102<103 by decide));refine⟨sX,sX,?_⟩;rw[Cp]
  split <;> omega
 |false=>
  simp only[Jm,Iw];refine⟨sY,sY,?_⟩;have h1:last.toNat<=1:=by cases last <;> decide
  have h2:(a%256).toNat<256:=sX;omega
theorem Qfj (last:Bool)(run b:Int)(w:A5)(n:BH w):A9 prog 207 #[.agg #[.bool last,.int .i64 run,.int .i64 b]] w fun e u=>
  e=.returned (.tuple #[.string (FL last run b),.bool (!(FL last run b).data.toList.isEmpty)])/\Below w.heap.size w u:=by
 have d:=fun x=>T5 last run b x;have v:=Dm (fun(x:A5) (k:Below w.heap.size w x)=>(n.below k:BH x));have g:Below w.heap.size w (w.alloc (.cells #[.bool last,.int .i64 run,.int .i64 b] 153 (0,0))):=(Dn _ w).alloc (B9 _) _;have o:∀x,Below (w.heap.size+1) (w.alloc (.cells #[.bool last,.int .i64 run,.int .i64 b] 153 (0,0))) x->x.heap[w.heap.size]? =some (BD last run b):=fun x k=>(k.block w.heap.size sX).trans (heap_alloc_new w _);have z:=Dm o;have h:(w.alloc (.cells #[.bool last,.int .i64 run,.int .i64 b] 153 (0,0))).heap.size=w.heap.size+1:=sZ;have s:=Dm h;cases hr:DL run b with
 |false=>
  have F:=Dm (show FL last run b=⟨#[]⟩ by unfold FL;rw[hr,Ba sY]);rw[F.out];rw[hr] at d;clear hr n o h
  go_enter func207,ntmps207
  go_wp2_with fail
  refine(d _).mono ?_;rintro e A ⟨rfl,c⟩;rw[s.out] at c
  go_wp2
  go_ret2
  exact⟨rfl,g.trans (c.mono sX)⟩
 |true=>
  obtain⟨C,r1,D,B,E⟩:=KQ.1 hr;obtain⟨r,rfl⟩:∃r:Nat,run=r:=⟨run.toNat,sX⟩;have F:=Dm (show FL last r b=⟨(AF (DO last r b) (DI last r b)).toArray⟩ by unfold FL;rw[hr,Bb rfl];rfl);have i:=fun x k=>iT last r b sX ⟨sX,B⟩ x k;obtain⟨f1,f2,f3⟩:=Th last r b sX;have G:=Dm (show (!(FL last r b).data.toList.isEmpty)=true by
   rw[F.out];show (!(AF (DO last r b) (DI last r b)).isEmpty)=true;cases hl:AF (DO last r b) (DI last r b) with
   |nil=>
    have e:=BS (DO last r b) (DI last r b);rw[hl] at e;simp at e;omega
   |cons a l=>rfl)
  rw[G.out,F.out];rw[hr] at d;generalize DO last r b=x at i f3 ⊢;generalize DI last r b=y at i f1 f2 f3 ⊢;have t:x<4194304:=Bc f3 (Br sY f2);have f:=fun w=>Qr (x:Int) (y:Int) w sX (by
   unfold EW;rw[Fg];refine⟨sX,sX,sX,?_⟩;rw[Dp]
   exact_mod_cast f3)
  simp only[Dp] at f;clear hr n o h F G f3
  go_enter func207,ntmps207
  go_wp2_with fail
  refine(d _).mono ?_;rintro e A ⟨rfl,c⟩;rw[s.out] at c;have j:=g.trans (c.mono sX);obtain⟨c0,c1,c2,_,_,_⟩:=CI (z.out _ c)
  go_wp2_with fail
  refine(i _ (v.out _ j)).mono ?_;rintro e H ⟨rfl,p⟩;have m:=j.trans (p.mono j.size);clear c0 c1 c2 c g
  go_wp2_with fail
  refine(f _).mono ?_;rintro e I ⟨rfl,q⟩
  go_wp2
  go_ret2
  exact⟨rfl,m.trans (q.mono m.size)⟩
end
section
open Go.RowKit
def BI (i:Bool):Nat:=i.toNat
def DW (x:Ev):ByteArray:=FL x.1 x.2.1 x.2.2
def BU (l:List Ev):List UInt8:=l.flatMap fun x=>(DW x).data.toList
def KB (i:Bool)(d:Int):Bool:=if i then decide (1<=d)&&decide (d<=254) else d==0
def dcB (i:Bool)(d:Int):List UInt8:=if i then AF (if d=128 then 255 else d.toNat) 8 else []
def FU (i:Bool)(d:Int)(l:List Ev):Bool:=KB i d && !EV (BI i) l l.length
def CN (i:Bool)(d:Int)(l:List Ev):List UInt8:=dcB i d++BU l
theorem lK (i:Bool)(d:Int):AH (dcB i d)=true:=by
 unfold dcB
 split
 ·exact JL _ _
 ·rfl
theorem Zc (i:Bool)(d:Int):(dcB i d).length=8*BI i:=by
 unfold dcB BI;cases i
 ·rfl
 ·exact BS _ _
theorem pW (x:Ev):AH (DW x).data.toList=true:=by
 unfold DW FL
 split
 ·exact JL _ _
 ·rfl
theorem Ql4 (x:Ev):(DW x).data.toList.length<=22:=by
 unfold DW FL
 split
 next h=>
  obtain⟨a,r1,_⟩:=KQ.1 h;have:=Th x.1 x.2.1.toNat x.2.2 sX;show (AF _ _).length<=22;rw[BS];exact this.2.1
 ·exact Do _
theorem Y2u (l m:List Ev):BU (l++m)=BU l++BU m:=by simp[BU]
theorem Sg (l:List Ev)(x:Ev):BU (l++[x])=BU l++(DW x).data.toList:=by simp[BU]
theorem hI (l:List Ev):AH (BU l)=true:=by
 induction l with
 |nil=>rfl
 |cons x l a=>rw[BU,Gc,D7,pW,show AH (List.flatMap (fun x=>(DW x).data.toList) l)=true from a];rfl
theorem Qhd (l:List Ev):(BU l).length<=22*l.length:=by
 induction l with
 |nil=>exact B9 _
 |cons x l a=>
  have h1:=Ql4 x;have h2:(List.flatMap (fun x=>(DW x).data.toList) l).length<=22*l.length:=a;rw[BU,Gc,B8,Bi];omega
theorem Yh (i:Bool)(d:Int)(l:List Ev):AH (CN i d l)=true:=by
 unfold CN;rw[D7,lK,hI]
 rfl
theorem Wu (i:Bool)(d:Int)(l:List Ev):(CN i d l).length<=8+22*l.length:=by
 have h1:=Zc i d;have h2:=Qhd l;have h3:BI i<=1:=by cases i <;> decide
 unfold CN;rw[B8];omega
def evI (x:Bool×Nat×Int):Ev:=(x.1,(x.2.1:Int),x.2.2)
def C4 (B:List UInt8):Nat->List Ev->Nat->Nat->List Ev×Int×Nat
 |0,_,_,_=>([],7,0)
 |k+1,acc,p,m=>
  if (etk (B.drop p)).2.1≠0 then ([],(etk (B.drop p)).2.1,0) else
  if 63<m+(etk (B.drop p)).1.2.1 then ([],7,0) else
  if (etk (B.drop p)).1.1 then (acc++[evI (etk (B.drop p)).1],0,p+(etk (B.drop p)).2.2) else
  C4 B k (acc++[evI (etk (B.drop p)).1]) (p+(etk (B.drop p)).2.2) (m+(etk (B.drop p)).1.2.1+1)
theorem cY {B:List UInt8}{k p m n:Nat}{acc:List Ev}{x:Bool×Nat×Int}{f:Int}(h:etk (B.drop p)=(x,f,n))(a:f≠0):C4 B (k+1) acc p m=([],f,0):=by
 rw[C4,h,Bb a]
theorem aO {B:List UInt8}{k p m n r:Nat}{acc:List Ev}{l:Bool}{v:Int}(h:etk (B.drop p)=((l,r,v),0,n))(hr:63<m+r):C4 B (k+1) acc p m=([],7,0):=by
 rw[C4,h,Ba (fun h=>h rfl),Bb hr]
theorem V9 {B:List UInt8}{k p m n r:Nat}{acc:List Ev}{v:Int}(h:etk (B.drop p)=((true,r,v),0,n))(hr:m+r<=63):C4 B (k+1) acc p m=(acc++[(true,(r:Int),v)],0,p+n):=by
 rw[C4,h,Ba (fun h=>h rfl),Ba vY,Bb rfl]
 rfl
theorem Vv {B:List UInt8}{k p m n r:Nat}{acc:List Ev}{v:Int}(h:etk (B.drop p)=((false,r,v),0,n))(hr:m+r<=63):C4 B (k+1) acc p m=C4 B k (acc++[(false,(r:Int),v)]) (p+n) (m+r+1):=by
 rw[C4,h,Ba (fun h=>h rfl),Ba vY,Ba (fun h=>uA)]
 rfl
def dcT (b:List UInt8)(i:Bool):Int×Int×Nat:=
 if i then (if b.length<8 then (0,2,0) else if num (b.take 8)=0\/num (b.take 8)=128 then (0,7,0) else (if num (b.take 8)=255 then 128 else ((num (b.take 8):Nat):Int),0,8)) else (0,0,0)
def btk (B:List UInt8)(p:Nat)(i c:Bool):Int×List Ev×Nat×Int:=
 if (dcT (B.drop p) i).2.1≠0 then (0,[],p,(dcT (B.drop p) i).2.1) else
 if c=false then ((dcT (B.drop p) i).1,[],p+(dcT (B.drop p) i).2.2,0) else
 if (C4 B (65-BI i) [] (p+(dcT (B.drop p) i).2.2) (BI i)).2.1≠0 then (0,[],p,(C4 B (65-BI i) [] (p+(dcT (B.drop p) i).2.2) (BI i)).2.1) else
 ((dcT (B.drop p) i).1,(C4 B (65-BI i) [] (p+(dcT (B.drop p) i).2.2) (BI i)).1,(C4 B (65-BI i) [] (p+(dcT (B.drop p) i).2.2) (BI i)).2.2,0)
theorem Ws {B:List UInt8}{p n:Nat}{i c:Bool}{d f:Int}(h:dcT (B.drop p) i=(d,f,n))(a:f≠0):btk B p i c=(0,[],p,f):=by
 unfold btk;rw[h,Bb a]
theorem SA {B:List UInt8}{p n:Nat}{i:Bool}{d:Int}(h:dcT (B.drop p) i=(d,0,n)):btk B p i false=(d,[],p+n,0):=by
 unfold btk;rw[h,Ba (fun h=>h rfl),Bb rfl]
theorem UD {B:List UInt8}{p n e:Nat}{i:Bool}{d f:Int}{l:List Ev}(h:dcT (B.drop p) i=(d,0,n))(a:C4 B (65-BI i) [] (p+n) (BI i)=(l,f,e))(b:f≠0):btk B p i true=(0,[],p,f):=by
 unfold btk;rw[h,Ba (fun h=>h rfl),Ba sY];simp only;rw[a,Bb b]
theorem Sp {B:List UInt8}{p n e:Nat}{i:Bool}{d:Int}{l:List Ev}(h:dcT (B.drop p) i=(d,0,n))(a:C4 B (65-BI i) [] (p+n) (BI i)=(l,0,e)):btk B p i true=(d,l,e,0):=by
 unfold btk;rw[h,Ba (fun h=>h rfl),Ba sY];simp only;rw[a,Ba (fun h=>h rfl)]
theorem Qkq (b:List UInt8):dcT b false=(0,0,0):=rfl
theorem TC {b:List UInt8}(h:b.length<8):dcT b true=(0,2,0):=by
 unfold dcT;rw[Bb rfl,Bb h]
theorem Tu {b:List UInt8}(h:8<=b.length)(hn:num (b.take 8)=0\/num (b.take 8)=128):dcT b true=(0,7,0):=by
 unfold dcT;rw[Bb rfl,Ba sX,Bb hn]
theorem S4 {b:List UInt8}(h:8<=b.length)(hn:num (b.take 8)=255):dcT b true=(128,0,8):=by
 unfold dcT;rw[Bb rfl,Ba sX,Ba sX,Bb hn]
theorem SH {b:List UInt8}{v:Nat}(h:8<=b.length)(hv:num (b.take 8)=v)(a:v≠0)(h1:v≠128)(h2:v≠255):dcT b true=((v:Int),0,8):=by
 unfold dcT;rw[Bb rfl,Ba sX,Ba sX,Ba sX,hv]
theorem Qot (p:Nat):(evT p).2.1<=63:=by
 have h:∀x∈evZ,x.2.1<=63:=uB;unfold evT;cases hp:evZ[p]? with
 |none=>exact Do _
 |some x=>exact h x (L7 hp)
theorem UJ {b:List UInt8}{l:Bool}{r n:Nat}{v f:Int}(h:etk b=((l,r,v),f,n)):r<=63/\n<=b.length:=by
 unfold etk at h
 split at h
 ·exact Wc6
 split at h
 ·split at h
  ·exact Wc6
  split at h
  ·injection h with h1 h2;injection h2 with h2 h5;have:=(XY (num (b.take 22))).1;rw[h1] at this;simp only at this;omega
  ·exact Wc6
 ·split at h
  ·exact Wc6
  ·injection h with h1 h2;injection h2 with h2 h5;have:=Qot (gtk allT b).1.toNat;unfold NP at h1;injection h1 with h1 h3;injection h3 with h3 h4;omega
theorem Qb5 (c d n m:Nat)(hc:c<2^n)(hd:d<2^m):AF c n++AF d m=AF (c*2^m+d) (n+m):=by
 have h:=Lq (AF c n++AF d m) (by rw[D7,JL,JL];rfl);rw[B8,BS,BS,LR,BS,IQ,IQ,Bq hc,Bq hd] at h;exact h.symm
theorem XI {l:Bool}{run:Nat}{a:Int}(hr:DL run a=true)(t:List UInt8):
  etk ((DW (l,(run:Int),a)).data.toList++t)=((l,run,a),0,(DW (l,(run:Int),a)).data.toList.length):=by
 obtain⟨r,u⟩:=Ah (DW (l,(run:Int),a));rw[u];unfold DW at u;simp only at u;obtain⟨z,r1,A,B,C⟩:=KQ.1 hr;obtain⟨f1,f2,f3⟩:=Th l run a sX;have g:r.data.toList=AF (DO l run a) (DI l run a):=by
  rw[<-u];unfold FL;rw[Bb hr,Dp]
 have h:r.data.toList.length=DI l run a:=by rw[g,BS]
 have c:(r.data.toList++t).take (DI l run a)=r.data.toList:=by rw[<-h,Dc]
 have o:DI l run a<=(r.data.toList++t).length:=wW;have j:num r.data.toList=DO l run a:=by rw[g,IQ,Bq f3]
 rw[h];obtain⟨b,m⟩:=Ah (r.data.toList++t);rw[m] at c o ⊢;cases hin:inT l run a.natAbs with
 |true=>
  have v:=PP sX hin;have q:=YS sX hin;have e:DO l run a=2*DM (plT l run a.natAbs)+(if a<0 then 1 else 0):=by unfold DO;rw[hin,Bb rfl]
  have d:DI l run a=AS (plT l run a.natAbs)+1:=by unfold DI;rw[hin,Bb rfl]
  generalize plT l run a.natAbs=p at v q e d;obtain⟨w,D,b2,_⟩:=ID p sX;have hs:(if a<0 then 1 else 0:Nat)<2:=by split <;> decide
  have f:(rowC (GO p)).isPrefixOf b=true:=by
   rw[<-m,g,e,d,YN,Ca,<-Qb5 _ _ _ 1 b2 hs,Bg,Jg];exact Jp _ _
  have hg:=Qw Q6 (Qj (show p<103 by omega)) (by rw[IV];exact w) (by rw[IV];omega) f;rw[IV] at hg;have ht:=Sn (i:=p) (n:=AS p) hg sX (by rw[<-d];exact o);rw[<-d,c,j,q,e] at ht;rw[ht];unfold NP;by_cases k:a<0
  ·rw[Bb k,show (2*DM p+1)%2=1 by omega];simp only[J5,Jw];rw[show -((a.natAbs:Nat):Int)=a by omega]
  ·rw[Ba k,show (2*DM p+0)%2=0 by omega];simp only[show ((0:Nat)==1)=false from rfl,Jm,Iw];rw[show ((a.natAbs:Nat):Int)=a by omega]
 |false=>
  have e:DO l run a=((6+l.toNat)*64+run)*256+(a%256).toNat:=by unfold DO;rw[hin,Ba (by decide)]
  have d:DI l run a=22:=by unfold DI;rw[hin,Ba (by decide)]
  have x:l.toNat<=1:=by cases l <;> decide
  have f:(rowC (GO 102)).isPrefixOf b=true:=by
   have y:(AF (DO l run a) 22).take 7=rowC (GO 102):=by
    rw[V7 _ _ _ sY,show DO l run a / 2^(22-7)=3 by rw[e];omega]
    decide +kernel
   rw[<-m,g,d,<-y,Jg];exact(K9 7 _).trans (Jp _ _)
  have hg:=Qw Q6 (Qj (show 102<103 by decide)) uB uB f;have ht:=S0 (n:=(rowC (GO 102)).length) hg sX;rw[<-d,c,j] at ht;have s:E5 (DO l run a)=(l,run,a):=by
   rw[e];unfold E5;rw[show (((6+l.toNat)*64+run)*256+(a%256).toNat) / 16384%2=l.toNat by omega,show (((6+l.toNat)*64+run)*256+(a%256).toNat) / 256%64=run by omega,show (((6+l.toNat)*64+run)*256+(a%256).toNat)%256=(a%256).toNat by omega];rw[show (l.toNat==1)=l by cases l <;> rfl]
   congr 2
   split <;> omega
  rw[s] at ht;simp only[hr,hin,Ju,Lb,Jw] at ht;rw[ht]
theorem UE {A C:List UInt8}{p:Nat}(h:p=A.length):(A++C).drop p=C:=by rw[h,List.drop_left]
theorem XH {a:Nat}{l:List Ev}(hl:EV a l l.length=false)(A C:List UInt8)(i:0<l.length):∀j,j<l.length->
  (lvS a (l.take j)).1<=63/\∃k,65<=k+(lvS a (l.take j)).1/\C4 (A++BU l++C) (65-a) [] A.length a=C4 (A++BU l++C) k (l.take j) (A.length+(BU (l.take j)).length) (lvS a (l.take j)).1
 |0,hj=>by
  have c:=PE hl hj;unfold GK at c;simp only[Ff,L0] at c;obtain⟨_,hn⟩:=c;rw[Bk] at hn ⊢;exact⟨sX,65-a,by show 65<=65-a+a;omega,rfl⟩
 |j+1,hj=>by
  obtain⟨f,k,g,o⟩:=XH hl A C i j sX;have c:=PE hl (show j<l.length by omega);have d:=PE hl hj;have hm:=UN a l (show j<l.length by omega);have ht:l.take (j+1)=l.take j++[l[j]' sX]:=Bd sX;have hcut:A++BU l++C=(A++BU (l.take j))++((DW (l[j]' sX)).data.toList++(BU (l.drop (j+1))++C)):=by
   have:BU l=BU (l.take j)++((DW (l[j]' sX)).data.toList++BU (l.drop (j+1))):=by
    have e:BU (l.take (j+1)++l.drop (j+1))=BU (l.take j)++((DW (l[j]' sX)).data.toList++BU (l.drop (j+1))):=by
     rw[ht,Y2u,Sg,Bg]
    rwa [Bt] at e
   rw[this];simp only[Bg]
  unfold GK at c d;simp only[Ff,L0,Bj] at c d;obtain⟨⟨hr,b⟩,hn⟩:=c;obtain⟨⟨_,_⟩,hn2⟩:=d;refine⟨sX,?_⟩;rw[o,hm,ht,Sg,B8];obtain⟨⟨e0,e1,e2⟩,p⟩:=Ah (l[j]' sX);rw[p] at hr b hn hcut hm ⊢;simp only at hr b hn ⊢;obtain⟨r,rfl⟩:∃r:Nat,e1=(r:Int):=⟨e1.toNat,by have:=(KQ.1 hr).1;omega⟩;have h:e0=false:=by rw[b];simp;omega
  subst h;rw[Dp] at hn ⊢;generalize (lvS a (l.take j)).1=m at f hn g ⊢;have hk:=XI (l:=false) hr (BU (l.drop (j+1))++C);obtain⟨k,rfl⟩:∃q,k=q+1:=⟨k-1,sX⟩;refine⟨k,sX,?_⟩;rw[Vv (r:=r) (v:=e2) (n:=(DW (false,(r:Int),e2)).data.toList.length) (by rw[hcut,UE (by rw[B8]),hk]) sX,By]
theorem Qd6 {a:Nat}{l:List Ev}(hl:EV a l l.length=false)(A C:List UInt8)(o:0<l.length):
  C4 (A++BU l++C) (65-a) [] A.length a=(l,0,A.length+(BU l).length):=by
 obtain⟨j,hj⟩:∃j,l.length=j+1:=⟨l.length-1,sX⟩;have c:j<l.length:=sX;obtain⟨f,k,g,p⟩:=XH hl A C o j c;have h:=PE hl c;have ht:l=l.take j++[l[j]]:=by
  conv=>lhs;rw[<-Jk (l:=l),hj,Bd c]
 have hcut:A++BU l++C=(A++BU (l.take j))++((DW l[j]).data.toList++C):=by
  have:BU l=BU (l.take j)++(DW l[j]).data.toList:=by
   conv=>lhs;rw[ht]
   rw[Sg]
  rw[this];simp only[Bg]
 have d:(BU l).length=(BU (l.take j)).length+(DW l[j]).data.toList.length:=by
  conv=>lhs;rw[ht]
  rw[Sg,B8]
 unfold GK at h;simp only[Ff,L0,Bj] at h;obtain⟨⟨hr,b⟩,hn⟩:=h;rw[p];have e:l.take j++[l[j]]=l:=ht.symm;obtain⟨⟨e0,e1,e2⟩,q⟩:=Ah (l[j]);rw[q] at hr b hn hcut d e;simp only at hr b hn;obtain⟨r,rfl⟩:∃r:Nat,e1=(r:Int):=⟨e1.toNat,by have:=(KQ.1 hr).1;omega⟩;have i:e0=true:=by rw[b];simp;omega
 subst i;rw[Dp] at hn;generalize (lvS a (l.take j)).1=m at f hn g;have hk:=XI (l:=true) hr C;obtain⟨k,rfl⟩:∃s,k=s+1:=⟨k-1,sX⟩;rw[V9 (r:=r) (v:=e2) (n:=(DW (true,(r:Int),e2)).data.toList.length) (by rw[hcut,UE (by rw[B8]),hk]) sX,e,d,By]
theorem Qjy {i:Bool}{d:Int}{l:List Ev}(hm:FU i d l=true)(A C:List UInt8):
  btk (A++CN i d l++C) A.length i (decide (0<l.length))=(d,l,A.length+(CN i d l).length,0):=by
 unfold FU at hm;rw[Ff,L4] at hm;obtain⟨hd,hl⟩:=hm;have c:dcT ((A++CN i d l++C).drop A.length) i=(d,0,(dcB i d).length):=by
  rw[Bg,UE rfl];unfold CN;rw[Bg];cases i with
  |false=>
   have:d=0:=by simpa [KB] using hd
   subst this
   rfl
  |true=>
   have m:1<=d/\d<=254:=by simpa [KB] using hd
   have e:=Zc true d;have k:(dcB true d).length=8:=e;have f:(dcB true d++(BU l++C)).take 8=dcB true d:=by rw[<-k,Dc]
   have g:8<=(dcB true d++(BU l++C)).length:=wW;have a:num (dcB true d)=if d=128 then 255 else d.toNat:=by
    unfold dcB;rw[Bb rfl,IQ,Bq]
    split <;> omega
   rw[k];by_cases b:d=128
   ·subst b;exact S4 g (by rw[f,a,Bb rfl])
   ·rw[Ba b] at a;rw[SH g (by rw[f,a]) sX sX sX];rw[Ce sX]
 have h:(CN i d l).length=(dcB i d).length+(BU l).length:=by unfold CN;rw[B8]
 by_cases j:0<l.length
 ·rw[Kf j];have:=Qd6 hl (A++dcB i d) C j;rw[B8] at this;rw[Sp c (by rw[show A++CN i d l++C=A++dcB i d++BU l++C by unfold CN;simp only[Bg]];exact this),h,By]
 ·rw[Kg j];have hn:l=[]:=Dh sX;subst hn;rw[SA c,h]
  rfl
theorem Qe3 {d:Int}:KB true d=(decide (1<=d)&&decide (d<=254)):=rfl
theorem SS {a:Nat}{l:List Ev}(h:EV a l l.length=false):l.length<=64:=by
 have b:∀j,j<=l.length->j<=(lvS a (l.take j)).1:=by
  intro j
  induction j with
  |zero=>intro _;exact Do _
  |succ j d=>
   intro hj;have h1:=d sX;have h2:=UN a l (show j<l.length by omega);rw[h2];simp only;omega
 by_cases c:l.length<=64
 ·exact c
 ·exfalso;have h1:=PE h (show 64<l.length by omega);have h2:=b 64 sX;unfold GK at h1;simp only[Ff,L0] at h1;omega
theorem Y9y {a:Nat}{l:List Ev}(h:EV a l l.length=false){j:Nat}(hj:j<l.length):DL l[j].2.1 l[j].2.2=true:=by
 have h1:=PE h hj;unfold GK at h1;simp only[Ff] at h1;exact h1.1.1
theorem Tq {i:Bool}{d:Int}{l:List Ev}(h:FU i d l=true):KB i d=true/\EV (BI i) l l.length=false:=by
 unfold FU at h;rw[Ff,L4] at h;exact h
theorem sP {i:Bool}{l:List Ev}(h:EV (BI i) l l.length=false):(lvG l ((BI i:Nat):Int)).2=0:=by
 unfold lvG;rw[Bb (by cases i;exact .inl rfl;exact .inr rfl),Dp,Ba uI]
theorem Qo8 {i:Bool}{l:List Ev}(h:EV (BI i) l l.length=true):(lvG l ((BI i:Nat):Int)).2=7:=by
 unfold lvG;rw[Bb (by cases i;exact .inl rfl;exact .inr rfl),Dp,Bb h]
theorem aL (B:List UInt8):∀(k:Nat) (acc:List Ev) (p m:Nat),(C4 B k acc p m).1.length<=acc.length+k
 |0,acc,p,m=>Do _
 |k+1,acc,p,m=>by
  rw[C4]
  split
  ·exact Do _
  split
  ·exact Do _
  split
  ·simp only[B8,Bi,Bu];omega
  ·refine Ef (aL B k _ _ _) ?_;simp only[B8,Bi,Bu];omega
theorem mA (B:List UInt8)(p:Nat)(i c:Bool):(btk B p i c).2.1.length<=65:=by
 unfold btk
 split
 ·exact Do _
 split
 ·exact Do _
 split
 ·exact Do _
 ·refine Ef (aL _ _ _ _ _) ?_;simp
def EvR (S:List UInt8)(a p:Nat)(acc:List Ev)(m t:Nat):Prop:=∃k,65<=k+m/\C4 S (65-a) [] p a=C4 S k acc t m
theorem EvR.first (S:List UInt8)(a p:Nat):EvR S a p [] a p:=⟨65-a,sX,rfl⟩
theorem EvR.err {S:List UInt8}{a p m t n:Nat}{acc:List Ev}{x:Bool×Nat×Int}{f:Int}(h:EvR S a p acc m t)(hm:m<=64)(b:etk (S.drop t)=(x,f,n))(c:f≠0):C4 S (65-a) [] p a=([],f,0):=by
 obtain⟨k,hk,h⟩:=h;obtain⟨k,rfl⟩:∃d,k=d+1:=⟨k-1,sX⟩;rw[h,cY b c]
theorem EvR.far {S:List UInt8}{a p m t n r:Nat}{acc:List Ev}{l:Bool}{v:Int}(h:EvR S a p acc m t)(hm:m<=64)(b:etk (S.drop t)=((l,r,v),0,n))(hr:63<m+r):C4 S (65-a) [] p a=([],7,0):=by
 obtain⟨k,hk,h⟩:=h;obtain⟨k,rfl⟩:∃c,k=c+1:=⟨k-1,sX⟩;rw[h,aO b hr]
theorem EvR.end {S:List UInt8}{a p m t n r:Nat}{acc:List Ev}{v:Int}(h:EvR S a p acc m t)(_:m<=64)(b:etk (S.drop t)=((true,r,v),0,n))(hr:m+r<=63):C4 S (65-a) [] p a=(acc++[(true,(r:Int),v)],0,t+n):=by
 obtain⟨k,hk,h⟩:=h;obtain⟨k,rfl⟩:∃c,k=c+1:=⟨k-1,sX⟩;rw[h,V9 b hr]
theorem EvR.on {S:List UInt8}{a p m t n r:Nat}{acc:List Ev}{v:Int}(h:EvR S a p acc m t)(_:m<=64)(b:etk (S.drop t)=((false,r,v),0,n))(hr:m+r<=63):EvR S a p (acc++[(false,(r:Int),v)]) (m+r+1) (t+n):=by
 obtain⟨k,hk,h⟩:=h;obtain⟨k,rfl⟩:∃c,k=c+1:=⟨k-1,sX⟩;exact⟨k,sX,by rw[h,Vv b hr]⟩
theorem Uw (i:Bool)(w:A5):A9 prog 206 #[.bool i] w fun e a=>e=.returned (.int .i64 (BI i:Nat))/\w=a:=by
 cases i
 all_goals
  go_enter func206,ntmps206
  go_wp2
  go_ret
  exact⟨rfl,rfl⟩
def CV (B:Nat)(q:Option Aa):Prop:=∀x,q=some x->B<=x.block
theorem CV.none (B:Nat):CV B none:=fun _ h=>uA
theorem CV.mono {A B:Nat}{q:Option Aa}(h:CV B q)(a:A<=B):CV A q:=fun x b=>Ef a (h x b)
theorem aT {w:A5}{B e c n k:Nat}{q:Option Aa}{l:List Value}{m:Nat}(h:w.ownsRow B e c (.slice q n k) m l):CV B q:=fun x a=>(h.lt x.block (by rw[a];rfl)).1
end
section
def AG (k:Int):Bool:=k==3 || k==4
def P0 (k:Int):Bool:=k==1 || k==4
def KH (inter:Bool):List UInt8:=if inter then [48] else []
def KT (inter:Bool):List UInt8:=KH inter++(BC inter 5 0).data.toList
def IE (inter:Bool)(n:Nat):List UInt8:=(List.replicate n (KT inter)).flatten
theorem NF (inter:Bool)(n:Nat):IE inter (n+1)=KT inter++IE inter n:=rfl
def F8 (c:Cel)(i:Nat):Nat:=(decide (0<(c.ev i).length)).toNat
theorem W2 (c:Cel)(i:Nat):F8 c i<=1:=by unfold F8;cases decide (0<(c.ev i).length) <;> decide
def BT (c:Cel):Nat->Nat
 |0=>0
 |i+1=>2*BT c i+F8 c i
def DK (c:Cel):Nat:=2*F8 c 4+F8 c 5
theorem R8 (c:Cel):BT c 4=8*F8 c 0+4*F8 c 1+2*F8 c 2+F8 c 3:=by
 simp only[BT];omega
theorem Sq (c:Cel):BT c 6=4*BT c 4+DK c:=by
 simp only[BT,DK];omega
theorem UR (c:Cel):BT c 4<16/\DK c<4/\BT c 6<64:=by
 have h:=fun i=>W2 c i;have a:=h 0;have h1:=h 1;have h2:=h 2;have h3:=h 3;have h4:=h 4;have b:=h 5;rw[Sq,R8];unfold DK;omega
def LN (k x y mx my:Int):List UInt8:=if AG k then [] else (BR (AI (mx-AI x))).data.toList++(BR (AI (my-AI y))).data.toList
def D6 (c:Cel):Nat->List UInt8
 |0=>[]
 |i+1=>D6 c i++CN (AG c.kind) (c.dc i) (c.ev i)
def E4 (inter:Bool)(x y:Int)(c:Cel):List UInt8:=
 IE inter c.stuff.toNat++(if c.skip then [49] else KH inter++(BC inter c.kind (DK c:Nat)).data.toList++(F4 (AG c.kind) (BT c 4:Nat)).data.toList++(E7 c.step).data.toList++LN c.kind x y c.mx c.my++D6 c 6)
def JY (c:Cel):Bool:=(c.kind==0&&c.step==0&&(c.mx==0&&c.my==0))&&((List.range 6).all (fun i=>c.dc i==0)&&(List.range 6).all (fun i=>decide ((c.ev i).length=0)))
def IJ (inter:Bool)(k:Int):Bool:=(k==3 || k==4) || (inter&&(k==0 || k==1))
def KS (k s:Int):Bool:=if P0 k then !(E7 s).data.toList.isEmpty else s==0
def JI (k mx my:Int):Bool:=if AG k then mx==0&&my==0 else mx==AI mx&&my==AI my
def HN (c:Cel):Bool:=(List.range 6).all fun i=>FU (AG c.kind) (c.dc i) (c.ev i)
def CC (inter:Bool)(c:Cel):Bool:=
 (decide (0<=c.stuff)&&decide (c.stuff<=64))&&(if c.skip then inter&&JY c else (IJ inter c.kind&&KS c.kind c.step)&&(JI c.kind c.mx c.my&&HN c))
theorem WO {s:Int}:(E7 s).data.toList.isEmpty=false↔(s = -1\/s = -2\/s=1\/s=2):=by
 unfold E7;by_cases h1:s = -1
 ·simp[h1]
 by_cases h2:s = -2
 ·simp[h2]
 by_cases h3:s=1
 ·simp[h3]
 by_cases h4:s=2
 ·simp[h4]
 simp[h1,h2,h3,h4]
theorem QJ {c:Cel}:HN c=true↔∀i,i<6->FU (AG c.kind) (c.dc i) (c.ev i)=true:=by
 unfold HN;rw[Bw];exact⟨fun h i hi=>h i (Bs.2 hi),fun h i hi=>h i (Bs.1 hi)⟩
theorem Wv (n:Int):-32<=AI n/\AI n<=31:=tC
theorem Ty {n:Int}:n=AI n↔(-32<=n/\n<=31):=tC
theorem Qv (inter:Bool)(k c:Int):AH (BC inter k c).data.toList=true/\(BC inter k c).data.toList.length<=9:=by
 have a:∀l:List ByteArray,(∀x∈l,AH x.data.toList=true/\x.data.toList.length<=9)->AH (l[c.toNat]?.getD ⟨#[]⟩).data.toList=true/\(l[c.toNat]?.getD ⟨#[]⟩).data.toList.length<=9:=by
  intro l hl;cases hx:l[c.toNat]? with
  |none=>exact⟨rfl,Do _⟩
  |some x=>exact hl x (L7 hx)
 unfold BC
 split
 ·refine a _ ?_;cases inter with
  |true=>
   show∀x∈MM k,_;unfold MM
   repeat' split
   all_goals decide +kernel
  |false=>
   show∀x∈LI k,_;unfold LI
   repeat' split
   all_goals decide +kernel
 ·exact⟨rfl,Do _⟩
theorem TQ (intra:Bool)(k:Int):AH (F4 intra k).data.toList=true/\(F4 intra k).data.toList.length<=6:=by
 have hl:∀x∈EM,AH x.data.toList=true/\x.data.toList.length<=6:=uB;unfold F4
 split
 ·cases hx:EM[EX intra k.toNat]? with
  |none=>exact⟨rfl,Do _⟩
  |some x=>exact hl x (L7 hx)
 ·exact⟨rfl,Do _⟩
theorem VI (s:Int):AH (E7 s).data.toList=true/\(E7 s).data.toList.length<=2:=by
 unfold E7
 repeat' split
 all_goals exact⟨rfl,sY⟩
theorem SJ (d:Int):AH (BR d).data.toList=true/\(BR d).data.toList.length<=13:=by
 by_cases h:-32<=d/\d<=31
 ·rw[T4 h];have:=VH h;exact⟨JL _ _,by show (AF _ _).length<=13;rw[BS];omega⟩
 ·rw[Rx sX];exact⟨rfl,Do _⟩
theorem fJ (k x y mx my:Int):AH (LN k x y mx my)=true/\(LN k x y mx my).length<=26:=by
 unfold LN
 split
 ·exact⟨rfl,Do _⟩
 ·have h1:=SJ (AI (mx-AI x));have h2:=SJ (AI (my-AI y));exact Wde
theorem Tv (inter:Bool):AH (KH inter)=true/\(KH inter).length<=1:=by cases inter <;> decide
theorem ZB (inter:Bool):AH (KT inter)=true/\(KT inter).length<=10:=by
 have h1:=Tv inter;have h2:=Qv inter 5 0;unfold KT;exact Wde
theorem S2 (inter:Bool):∀n,AH (IE inter n)=true/\(IE inter n).length<=10*n
 |0=>⟨rfl,B9 _⟩
 |n+1=>by
  have h1:=ZB inter;have h2:=S2 inter n;rw[NF];exact Wde
theorem Zy (c:Cel):∀i,AH (D6 c i)=true
 |0=>rfl
 |i+1=>by
  show AH (D6 c i++CN (AG c.kind) (c.dc i) (c.ev i))=true;rw[D7,Zy c i,Yh]
  rfl
theorem Uz {c:Cel}{n:Nat}:∀i,(∀j,j<i->(c.ev j).length<=n)->(D6 c i).length<=(8+22*n)*i
 |0,_=>B9 _
 |i+1,h=>by
  have h1:=Uz i fun j hj=>h j sX;have h2:=Wu (AG c.kind) (c.dc i) (c.ev i);have h3:=h i sX;show (D6 c i++CN (AG c.kind) (c.dc i) (c.ev i)).length<=_;rw[B8,Nat.mul_add,Nat.mul_one];omega
theorem Qad (inter:Bool)(x y:Int)(c:Cel):AH (E4 inter x y c)=true:=by
 unfold E4;rw[D7,(S2 inter _).1,Jj]
 split
 ·rfl
 ·simp only[D7,(Tv inter).1,(Qv _ _ _).1,(TQ _ _).1,(VI _).1,(fJ _ _ _ _ _).1,Zy,Bool.and_self]
theorem lM {inter:Bool}{x y:Int}{c:Cel}(hs:c.stuff.toNat<=64)(h:∀i,i<6->(c.ev i).length<=100):(E4 inter x y c).length<=20000:=by
 have h1:=(S2 inter c.stuff.toNat).2;have h2:=Uz 6 h;have h3:=(Tv inter).2;have h4:=(Qv inter c.kind (DK c:Nat)).2;have a:=(TQ (AG c.kind) (BT c 4:Nat)).2;have b:=(VI c.step).2;have d:=(fJ c.kind x y c.mx c.my).2;unfold E4;rw[B8]
 split
 ·simp only[Bi,Bu];omega
 ·simp only[B8];omega
end
section
open Go.RowKit Go.Lib
def MT (v n i:Nat):Bool:=decide (n<=D2 i)&&(IS i / 2^(D2 i-n)==v)
theorem Qj2 {q:List UInt8}(a:AH q=true){i:Nat}(hi:i<33):MT (num q) q.length i=q.isPrefixOf (CL i):=(Zs a (LH i hi).2.2.1).symm
def Tn:Value:=.agg (OX.map fun z=>Value.int .i64 (z:Nat)).toArray
theorem Qo4 (w:A5)(i:Nat)(h:i<33):(Instr.index 248 Tn (.int .i64 (i:Int))).run prog w=.ok (.int .i64 (D2 i:Nat)) w:=by
 rcases (by omega:i=0\/i=1\/i=2\/i=3\/i=4\/i=5\/i=6\/i=7\/i=8\/i=9\/i=10\/i=11\/i=12\/i=13\/i=14\/i=15\/i=16\/i=17\/i=18\/i=19\/i=20\/i=21\/i=22\/i=23\/i=24\/i=25\/i=26\/i=27\/i=28\/i=29\/i=30\/i=31\/i=32) with rfl|rfl|rfl|rfl|rfl|rfl|rfl|rfl|rfl|rfl|rfl|rfl|rfl|rfl|rfl|rfl|rfl|rfl|rfl|rfl|rfl|rfl|rfl|rfl|rfl|rfl|rfl|rfl|rfl|rfl|rfl|rfl|rfl
 all_goals kernel_rfl
def Qjc (v n:Nat)(w:A5)(e:Ae)(a:A5):Prop:=
 ((∃i:Nat,i<33/\MT v n i=true/\e=.returned (.tuple #[.int .i64 (i:Int),.bool true]))\/((∀i,i<33->MT v n i=false)/\e=.returned (.tuple #[.int .i64 0,.bool false])))/\w=a
theorem Qlf:∀w,(isAgg 248).run prog w=.ok true w:=fun _=>tN
theorem Qf0:∀w,(Go.sizeOf 248).run prog w=.ok 33 w:=fun _=>tN
theorem eO:(OX.map fun z=>Value.int .i64 (z:Nat)).length=33:=rfl
theorem Qf1 (w:A5)(b:FZ w):(loadVar 248 ⟨3,0,none⟩).run prog w=.ok Tn w:=by
 have hl:=run_loadCells_list (P:=prog) w ⟨3,0,none⟩ (OX.map fun z=>Value.int .i64 (z:Nat)) (fun j v hj=>by
  have a:j<33:=by
   have:=(La.1 hj).1;rwa [eO] at this
  have h2:=(b j a).2;rw[Addr.add_lit,Bn,h2];rw[Ig] at hj;obtain⟨z,c,rfl⟩:=Ih.1 hj;unfold D2;rw[c]
  rfl)
 rw[eO] at hl;unfold loadVar;simp only[Em,Qlf,Ej,Jw,Qf0,hl,Et]
 rfl
theorem Y7e {ops:Array Oper}{rest:List Oper}{a:Act}{w:A5}{Q:Exit->Act->A5->Prop}{pos:String}{ty:TypeId}{after:Array Edge}{d:Option Tmp}(b:FZ w)(h:wpList prog ops Q rest (a.put d Tn) w):
  wpList prog ops Q ({dst:=d,op:=Op.load 248 (Operand.global 3),type:=ty,pos:=pos,after:=after,guard:=none}::rest) a w:=
 Ex rfl fun _ c=>by
  unfold Oper.wp;rw[FW (ev:=a.eval) (ty:=248) (x:=.global 3) (ad:=⟨3,0,none⟩) rfl rfl (Qf1 w b)];exact c _ _ h
set_option maxRecDepth 100000 in
theorem lP (d n:Nat)(hn:n<=32)(w:A5)(p:FZ w):A9 prog 228 #[.int .i64 (d:Int),.int .i64 (n:Int)] w (Qjc d n w):=by
 have t:=Dm p
 go_enter func228,ntmps228
 go_wp2_with (with_reducible refine Y7e p ?_)
 have m:=Dm (fun(w:A5) (i:Nat) (h:i<33)=>Qo4 w i h);generalize Tn=A at m ⊢;clear p
 go_loop [9] (fun v=>∃i:Nat,i<=33/\v=.int .i64 i/\Hid (∀j,j<i->MT d n j=false)) (fun v=>33-(intOf v).toNat)
 case atStart=>exact⟨0,sX,rfl,Dm (fun j h=>absurd h (Fi j))⟩
 case round=>
  obtain⟨i,s,rfl,l⟩:=hrel;by_cases f:i<33
  ·have o:=fun w=>m.out w i f;obtain⟨c0,_⟩:=t.out i f;obtain⟨u,z,b2,b3⟩:=LH i f;clear b2;have a:MT d n i=(decide (n<=D2 i)&&(IS i / 2^(D2 i-n)==d)):=rfl;have c:∀r,MT d n i=r->r=false->∀j,j<i+1->MT d n j=false:=by
    intro r h1 h2 j hj;by_cases e:j=i
    ·subst e;rw[h1,h2]
    ·exact l.out j sX
   have g:=Dm c;generalize IS i=x at c0 b3 a;generalize D2 i=y at o u z a;clear l c;by_cases q:n<=y
   ·obtain⟨k,rfl⟩:∃k,y=n+k:=⟨y-n,sX⟩;rw[Bm,Kf q,Jj] at a;have t0:decide (n<=n+k)=true:=sZ;have b:((x:Int) / 2^k==(d:Int))=(x / 2^k==d):=by
     rw[Jc,Bj,Bj,<-L9];simp
    rw[<-b] at a;cases hg:((x:Int) / 2^k==(d:Int)) with
    |true=>
     have B:=Dm (a.trans hg);clear a b
     go_wp2
     go_ret2
     exact⟨.inl ⟨i,f,B.out,rfl⟩,rfl⟩
    |false=>
     have B:=Dm (a.trans hg);clear a b
     exact Wdb
   ·have t0:decide (n<=y)=false:=tO;rw[t0,Kq] at a;have B:=Dm a;clear a
    exact Wdb
  ·obtain rfl:i=33:=sX
   go_wp2
   go_ret2
   exact⟨.inr ⟨l.out,rfl⟩,rfl⟩
def Tr (s:ByteArray)(rb p:Nat)(w:A5)(e:Ae)(a:A5):Prop:=
 e=.returned (.tuple #[.int .i64 (dtk ((A2 s.data.toList).drop p)).1,.int .i64 (dtk ((A2 s.data.toList).drop p)).2.1])/\
  AE a rb s (p+(dtk ((A2 s.data.toList).drop p)).2.2)/\w.grownBy a (some rb)
theorem NQ {s:ByteArray}{rb p n:Nat}{w b:A5}{a f:Int}(h:dtk ((A2 s.data.toList).drop p)=(a,f,n))(hr:AE b rb s (p+n))(hg:w.grownBy b (some rb)):
  Tr s rb p w (.returned (.tuple #[.int .i64 a,.int .i64 f])) b:=by
 unfold Tr;rw[h];exact⟨rfl,hr,hg⟩
theorem NV {w a:A5}(c:Below w.heap.size w a)(b:Nat):w.grownBy a (some b):=BF c _
theorem dP {t r:Nat}(h:t%2=r):(bits .and .i64 (t:Int) 1==1)=(r==1):=by
 rw[SF,Jc,Bj,Bj];omega
set_option maxRecDepth 100000 in
theorem Qe7 (i n:Nat)(w:A5)(rb:Nat)(s:ByteArray)(p:Nat)(y:FZ w)(hr:AE w rb s p)(hi:i<33)(g:D2 i=n)(hn:p+n<=8*s.size)(k:((A2 s.data.toList).drop p).take n=CL i)
  (ht:tk rowsD ((A2 s.data.toList).drop p) 25 1=tk rowsD ((A2 s.data.toList).drop p) (26-n) n):
  A9 prog 229 #[.pointer (some ⟨rb,0,none⟩),.int .i64 (i:Int)] w (Tr s rb p w):=by
 obtain⟨J,d⟩:=Ah ((A2 s.data.toList).drop p);have l:J.length=8*s.size-p:=by rw[<-d,Bf,AZ];rfl
 have u:s.data.toList.length=s.size:=rfl;have O:=hr.2.2;have R:n<=12:=by rw[<-g];exact(LH i hi).2.1
 have m:=Dm d;rw[d] at k ht;by_cases P:i=0
 ·subst P;have h1:n=1:=by rw[<-g];decide +kernel
  subst h1;have F:=Dm (Qkz (b:=J) (by rw[g];exact k));have c1:w.cell? ⟨3,0,none⟩=some (.int .i64 1):=(y 0 sY).2;have a:ask s.data.toList p 1=(((AB s.data.toList p 1:Nat):Int),0):=EK (n:=1) sX (by rw[u];omega);have D:CM s.data.toList p 1=p+1:=by unfold CM;rw[a];rfl
  have A:=Dm a;have T:=Dm D;clear a D k ht g d l y
  go_enter func229,ntmps229
  go_wp2_with fail
  refine(JH _ _ _ _ 1 hr).mono ?_;rintro e j ⟨rfl,f,hg⟩;rw[A.out];rw[T.out] at f
  go_wp2
  go_ret2
  exact NQ wS f hg
 ·have W:((i:Int)==0)=false:=uC;have c1:w.cell? ⟨3,i,none⟩=some (.int .i64 (n:Int)):=by rw[(y i hi).2,g]
  by_cases S:8*s.size<p+n+1
  ·have F:=Dm (lC hi P g sX k ht sX);have a:ask s.data.toList p ((n:Int)+1)=(0,2):=FS sX (by rw[u];omega);have A:=Dm a;clear a k ht g d l y
   exact Wc9
  ·have z:n<J.length:=sX;obtain⟨t,o⟩:=Ah (AB s.data.toList p (n+1));have a:ask s.data.toList p ((n:Int)+1)=((t:Int),0):=by
    rw[EK (n:=(n:Int)+1) sX (by rw[u];omega),show ((n:Int)+1).toNat=n+1 by omega,o]
   have A:=Dm a;have q:=QH s.data.toList p n (by rw[u];omega);rw[o] at q;simp only[d] at q;obtain⟨_,q⟩:=q;have E:=Dm (fun(x:A5) (U:Below w.heap.size w x)=>(y.below U:FZ x));have X:0<=(p:Int)+n+1:=sX;have Y:(p:Int)+n+1<=8*(s.size:Int):=sX;have Q:((p:Int)+n+1).toNat=p+(n+1):=sX;have G:=Dm g;have H:=Dm hi;rcases q with ⟨hc,h⟩|⟨hc,h⟩
   ·have V:(bits .and .i64 (t:Int) 1==1)=false:=dP h;by_cases v:i=32
    ·have F:=Dm (Y05 (by rw[<-v];exact g) z (by rw[<-v];exact k) hc ht);have t1:decide (31<(i:Int))=true:=tO;clear a k ht g d l y hc h o v
     exact Wc9
    ·have F:=Dm (oQ sX sX g z k hc);have t1:decide (31<(i:Int))=false:=tO;clear a k ht g d l y hc h o v
     exact Wc2
   ·have V:(bits .and .i64 (t:Int) 1==1)=true:=dP h;have F:=Dm (pK hi sX g z k hc);have t1:decide (31 < -(i:Int))=false:=by rw[Gd];omega
    clear a k ht g d l y hc h o
    exact Wc2
def TM (a:List UInt8)(m:Nat):Prop:=tk rowsD a 25 1=tk rowsD a (25-m) (m+1)/\MV (a.take m)
set_option maxRecDepth 100000 in
theorem Qe6 (w:A5)(rb:Nat)(s:ByteArray)(p:Nat)(hp:FZ w)(hr:AE w rb s p):
  A9 prog 213 #[.pointer (some ⟨rb,0,none⟩)] w (Tr s rb p w):=by
 obtain⟨h,j⟩:=Ah ((A2 s.data.toList).drop p);have I:h.length=8*s.size-p:=by rw[<-j,Bf,AZ];rfl
 have u:AH h=true:=by rw[<-j];exact DH _ _ (GX _)
 have J:s.data.toList.length=s.size:=rfl;have af:=hr.2.1;have l:∀n,AB s.data.toList p n=num (h.take n):=fun n=>by unfold AB;rw[j]
 have q:=Dm j;have ad:=Dm I;have T:=Dm u;have ag:=Dm l;have U:=Dm (fun(x:A5) (K:Below w.heap.size w x)=>(hp.below K:FZ x));have D:=Dm (fun(x:A5) (K:Below w.heap.size w x)=>(hr.below K:AE x rb s p));have L:Below w.heap.size w w:=Dn _ _;have c:TM h 0:=⟨rfl,by rw[Bk];exact Qln⟩;have ae:=Dm c;clear j I u l hp hr c
 go_enter func213,ntmps213
 go_wp2
 go_loopw [4] (fun v wr=>∃m:Nat,m<12/\v=.int .i64 ((m:Int)+1)/\Below w.heap.size w wr/\Hid (TM h m)) (fun v _=>13-(intOf v).toNat)
 case atStart=>exact⟨0,sX,rfl,L,ae⟩
 case round=>
  clear L ae;obtain⟨m,hm,rfl,M,c⟩:=hrel;have E:=D.out _ M;have V:=M.size;by_cases W:8*s.size<p+m+1
  ·have g:ask s.data.toList p ((m:Int)+1)=(0,2):=FS sX (by rw[J];omega);have F:=Dm (ML (all:=allD) (b:=h) (n:=0) (f:=2) (c.out.1.trans (by rw[show 25-m=(24-m)+1 by omega];exact VS (by rw[ad.out];omega))) sY);have A:=Dm g;clear g W
   go_wp2_with fail
   refine(FP _ _ _ _ ((m:Int)+1) E).mono ?_;rintro e w1 ⟨rfl,r⟩;rw[A.out];have d:=M.trans (r.mono V)
   go_wp2
   go_ret2
   exact NQ (n:=0) (by rw[q.out];exact F.out) (D.out _ d) (NV d rb)
  ·obtain⟨t,G⟩:=Ah (AB s.data.toList p (m+1));have g:ask s.data.toList p ((m:Int)+1)=((t:Int),0):=by
    rw[EK (n:=(m:Int)+1) sX (by rw[J];omega),show ((m:Int)+1).toNat=m+1 by omega,G]
   have hq:num (h.take (m+1))=t:=by rw[<-ag.out,G]
   have N:m+1<=h.length:=by rw[ad.out];omega
   have O:(h.take (m+1)).length=m+1:=tB;have z:∀i,i<33->MT t (m+1) i=(h.take (m+1)).isPrefixOf (CL i):=fun i hi=>by
    have:=Qj2 (ET _ (m+1) T.out) hi;rwa [hq,O] at this
   have A:=Dm g;have S:=Dm N;have P:=Dm z;have B:=fun(x:A5) (K:FZ x)=>lP t (m+1) sX x K;rw[show ((m+1:Nat):Int)=(m:Int)+1 by omega] at B;clear g hq O N z G
   go_wp2_with fail
   refine(FP _ _ _ _ ((m:Int)+1) E).mono ?_;rintro e w1 ⟨rfl,r⟩;rw[A.out];have d:=M.trans (r.mono V);have ah:=d.size;have H:=U.out _ d;have Q:=D.out _ d;clear M r E V
   go_wp2_with fail
   refine(B _ H).mono ?_;rintro e w2 ⟨⟨i,hi,a,rfl⟩|⟨X,rfl⟩,rfl⟩
   ·rw[P.out i hi] at a;have c2:=(H i hi).2;have C:=(LH i hi).2.1;have o:=HH a;rw[OD,Be,Bv S.out] at o;by_cases R:D2 i=m+1
    ·have hd:=Qe7 i (m+1) w1 rb s p H Q hi R sX (by rw[q.out];exact qW S.out a R) (by rw[q.out,show 26-(m+1)=25-m by omega];exact c.out.1);have Y:((D2 i:Int)==(m:Int)+1)=true:=uE;have Z:=NV d rb;have ai:=Dm hd;clear a C o R hd;generalize D2 i=y at c2 Y
     go_wp2_with fail
     refine ai.out.mono ?_;rintro e w3 ⟨rfl,aa,ab⟩
     go_wp2
     go_ret2
     exact⟨rfl,aa,AP Z ab⟩
    ·obtain⟨h1,h2⟩:=iW (k:=24-m) S.out c.out.2 hi a R;have aj:Hid (TM h (m+1)):=Dm ⟨c.out.1.trans (by rw[show 25-m=(24-m)+1 by omega,h1,show 25-(m+1)=24-m by omega]),h2⟩;have Y:((D2 i:Int)==(m:Int)+1)=false:=uC;have ac:m+1<12:=sX;clear a C o R h1 h2;generalize D2 i=y at c2 Y
     go_wp2
     go_roundw
     case rel=>exact⟨m+1,ac,tP,d,aj⟩
     case measure=>simp[intOf];omega
   ·have F:=Dm (ML (all:=allD) (b:=h) (n:=0) (f:=3) (c.out.1.trans (by rw[show 25-m=(24-m)+1 by omega];exact Qkx S.out c.out.2 (fun i hi=>by rw[<-P.out i hi];exact X i hi))) sY)
    go_wp2
    go_ret2
    exact NQ (n:=0) (by rw[q.out];exact F.out) Q (NV d rb)
theorem GC {x:A5}{rb p:Nat}{s:ByteArray}{a:Aa}{v:Value}(h:AE x rb s p)(b:rb≠a.block):AE (x.setCell a v) rb s p:=h.grown (D3 x a v) b
def Qdl (v n:Nat)(w:A5)(e:Ae)(a:A5):Prop:=
 ((∃i:Nat,i<103/\K3 v n i=true/\e=.returned (.tuple #[.int .i64 (i:Int),.bool true]))\/((∀i,i<103->K3 v n i=false)/\e=.returned (.tuple #[.int .i64 0,.bool false])))/\Below w.heap.size w a
set_option maxRecDepth 100000 in
theorem nC (v n:Nat)(hn:n<=12)(w:A5)(D:BH w):A9 prog 313 #[.int .i64 (v:Int),.int .i64 (n:Int)] w (Qdl v n w):=by
 have F:=Dm (fun(x:A5) (G:Below w.heap.size w x)=>(D.below G:BH x));have t:Below w.heap.size w w:=Dn _ _;clear D
 go_enter func313,ntmps313
 go_wp2
 go_loopw [9] (fun u wr=>∃i:Nat,i<=103/\u=.int .i64 i/\Below w.heap.size w wr/\Hid (∀j,j<i->K3 v n j=false)) (fun u _=>103-(intOf u).toNat)
 case atStart=>exact⟨0,sX,rfl,t,Dm (fun j h=>absurd h (Fi j))⟩
 case round=>
  clear t;obtain⟨i,hi,rfl,o,p⟩:=hrel;by_cases f:i<103
  ·have hc:=QX i f wr (F.out _ o);obtain⟨H,I,b2,b3⟩:=ID i f;clear b2;have b:K3 v n i=(DM i / 2^(AS i-n)==v / 2^(n-AS i)):=rfl;have g:∀r,K3 v n i=r->r=false->∀j,j<i+1->K3 v n j=false:=by
    intro r h1 h2 j hj;by_cases e:j=i
    ·subst e;rw[h1,h2]
    ·exact p.out j sX
   have l:=Dm g;generalize DM i=x at hc b3 b;generalize AS i=y at hc H I b;have t9:decide ((i:Int)<103)=true:=tO;have s:=o.size;clear p g;rcases Nat.lt_trichotomy n y with q|q|q
   ·obtain⟨k,rfl⟩:∃k,y=n+k:=⟨y-n,sX⟩;have hk:0<k:=sX;rw[Bm,show n-(n+k)=0 by omega,Ft,Fs] at b;have z:IntKind.i64.wrap ((n:Int)+k-n)=(k:Int):=(Kd _ sX).trans sX;have C:IntKind.i64.wrap ((n:Int)-((n:Int)+k)) = -(k:Int):=(Kd _ sX).trans sX;have a:((x:Int) / 2^k==(v:Int))=(x / 2^k==v):=by
     rw[Jc,Bj,Bj,<-L9];simp
    cases hg:((x:Int) / 2^k==(v:Int)) with
    |true=>
     exact Wc5
    |false=>
     exact Wc4
   ·subst q;rw[Ci,Ft,Fs,Fs] at b;have z:IntKind.i64.wrap ((n:Int)-n)=0:=(Kd _ sX).trans sX;have a:((x:Int)==(v:Int))=(x==v):=by
     rw[Jc,Bj,Bj,<-L9]
    cases hg:((x:Int)==(v:Int)) with
    |true=>
     exact Wc5
    |false=>
     exact Wc4
   ·obtain⟨k,B⟩:=Ah (n-y);have hk:0<k:=sX;rw[B,show y-n=0 by omega,Ft,Fs] at b;have z:IntKind.i64.wrap ((n:Int)-y)=(k:Int):=(Kd _ sX).trans sX;have C:IntKind.i64.wrap ((y:Int)-n) = -(k:Int):=(Kd _ sX).trans sX;have E:k<=12:=sX;clear B;have a:((x:Int)==(v:Int) / 2^k)=(x==v / 2^k):=by
     rw[Jc,Bj,Bj,<-L9];simp
    cases hg:((x:Int)==(v:Int) / 2^k) with
    |true=>
     exact Wc5
    |false=>
     exact Wc4
  ·obtain rfl:i=103:=sX
   go_wp2
   go_ret2
   exact⟨.inr ⟨p.out,rfl⟩,o⟩
def qZ (a:List UInt8)(w:A5)(e:Ae)(b:A5):Prop:=
 ((∃i:Nat,i<103/\gtk allT a=((i:Int),0,AS i)/\AS i<=a.length/\e=.returned (.tuple #[.int .i64 (i:Int),.int .i64 0]))\/
  (∃f:Int,f≠0/\gtk allT a=(0,f,0)/\e=.returned (.tuple #[.int .i64 0,.int .i64 f])))/\Below w.heap.size w b
theorem Qgb (w:A5)(rb:Nat)(s:ByteArray)(p:Nat)(Y:BH w)(hr:AE w rb s p):
  A9 prog 289 #[.pointer (some ⟨rb,0,none⟩)] w (qZ ((A2 s.data.toList).drop p) w):=by
 obtain⟨K,m⟩:=Ah ((A2 s.data.toList).drop p);have U:s.data.toList.length=s.size:=rfl;have ab:=hr.2.1;have V:K.length=8*s.size-p:=by rw[<-m,Bf,AZ];rfl
 have o:AH K=true:=by rw[<-m];exact DH _ _ (GX _)
 obtain⟨n,hn⟩:∃n,n=min 12 K.length:=⟨_,rfl⟩;have q:AB s.data.toList p n=num (K.take n):=by unfold AB;rw[m]
 obtain⟨v,hv⟩:=Ah (num (K.take n));have r:ask s.data.toList p (n:Int)=((v:Int),0):=by
  rw[EK (n:=(n:Int)) sX (by rw[U];omega),Dp,q,hv]
 have Z:v<4294967296:=by
  have h1:=K0 K o n sX;have h2:2^n<=2^12:=Br sY sX;rw[hv] at h1;omega
 have M:n<=12:=sX;obtain⟨N,G⟩:∃N:Int,(n:Int)=N:=⟨_,rfl⟩;have F:min 12 (8*(s.size:Int)-p)=N:=sX;have H:=fun x O=>nC v n M x O;rw[G] at r H;have A:=Dm r;have j:=Dm o;have L:=Dm hn;have R:=Dm hv;have S:=Dm G;have C:=fun i hi x O=>QX i hi x O;have T:=Dm (fun(x:A5) (O:Below w.heap.size w x)=>(Y.below O:BH x));have aa:=Dm F;rw[m];clear r F o hn hv m q V Y G
 go_enter func289,ntmps289
 go_wp2_with fail
 refine(Rf _ _ _ _ hr).mono ?_;rintro e w1 ⟨rfl,k⟩;have D:=hr.below k;have E:=k.size;clear hr
 go_wp2_with fail
 ·obtain rfl:N=8*(s.size:Int)-p:=by have:=aa.out;omega
  exact Wc1
 ·obtain rfl:N=12:=by have:=aa.out;omega
  exact Wc1
def Rq (s:ByteArray)(rb p:Nat)(w:A5)(e:Ae)(a:A5):Prop:=
 e=.returned (.tuple #[NC (etk ((A2 s.data.toList).drop p)).1,.int .i64 (etk ((A2 s.data.toList).drop p)).2.1])/\
  AE a rb s (p+(etk ((A2 s.data.toList).drop p)).2.2)/\w.grownBy a (some rb)
theorem Vy {s:ByteArray}{rb p n:Nat}{w a:A5}{l:Bool}{r:Nat}{v f:Int}(h:etk ((A2 s.data.toList).drop p)=((l,r,v),f,n))(hr:AE a rb s (p+n))(hg:w.grownBy a (some rb)):
  Rq s rb p w (.returned (.tuple #[.agg #[.bool l,.int .i64 (r:Int),.int .i64 v],.int .i64 f])) a:=by
 unfold Rq;rw[h];exact⟨rfl,hr,hg⟩
theorem RO {s:ByteArray}{rb p:Nat}{w a:A5}{f:Int}(h:etk ((A2 s.data.toList).drop p)=((false,0,0),f,0))(hr:AE a rb s p)(hg:w.grownBy a (some rb)):
  Rq s rb p w (.returned (.tuple #[.agg #[.bool false,.int .i64 0,.int .i64 0],.int .i64 f])) a:=Vy (r:=0) (n:=0) h hr hg
theorem iU (w:A5)(rb:Nat)(s:ByteArray)(p:Nat)(hp:BH w)(hr:AE w rb s p):
  A9 prog 268 #[.pointer (some ⟨rb,0,none⟩)] w (Rq s rb p w):=by
 obtain⟨bs,Z⟩:=Ah ((A2 s.data.toList).drop p);have a0:s.data.toList.length=s.size:=rfl;have b7:=hr.2.1;have b3:=hr.2.2;have a1:bs.length=8*s.size-p:=by rw[<-Z,Bf,AZ];rfl
 have aa:∀n,AB s.data.toList p n=num (bs.take n):=fun n=>by unfold AB;rw[Z]
 have a2:=hr.lt;obtain⟨B,hB⟩:=Ah w.heap.size;have a:rb≠B:=sX;obtain⟨W,ab⟩:=Ah (w.alloc (.cells #[.bool false,.int .i64 0,.int .i64 0] 153 (0,0)));have al:Below B w W:=by rw[<-ab,<-hB];exact(Dn _ w).alloc (B9 _) _
 have am:W.heap.size=B+1:=by rw[<-ab,<-hB];simp
 have a3:W.heap[B]? =some (BD false 0 0):=by rw[<-ab,<-hB];exact heap_alloc_new w _
 have av:AE W rb s p:=hr.below (by rw[hB];exact al);have aw:BH W:=hp.below (by rw[hB];exact al);have a4:=Qgb W rb s p aw av;rw[Z] at a4;have a5:=Dm (fun(x:A5) (R:Below (B+1) W x)=>((R.block B sX).trans a3:x.heap[B]? =some (BD false 0 0)));have X:=Dm (fun(x:A5) (R:Below (B+1) W x)=>(av.below (by rw[am];exact R):AE x rb s p));have bp:=Dm (fun(x:A5) (R:Below (B+1) W x)=>(aw.below (by rw[am];exact R):BH x));have a6:=Dm (fun(x:A5) (R:Below (B+1) W x)=>(by
  have h:=al.trans (R.mono sX);rw[<-hB] at h;exact⟨h.os,h.tape,h.output,h.size,fun k hk _=>h.block k hk⟩:w.grownBy x (some rb)))
 have b8:=Dm hB;have Y:=Dm Z;have bq:=Dm a1;have b9:=Dm aa;have bt:=Dm ab;have b:w.heap.size<=B:=sX;clear hB ab al a3 av aw hp hr Z a1 aa a2
 go_enter func268,ntmps268
 go_wp2_with fail
 rw[bt.out,b8.out];refine a4.mono ?_;rintro e w2 ⟨⟨i,hi,hg,an,rfl⟩|⟨f,hf,hg,rfl⟩,d⟩
 all_goals rw[am] at d
 ·obtain⟨n,hn⟩:=Ah (if i=102 then 22 else AS i+1:Nat);have N:=TO i hi w2 (bp.out _ d);rw[hn] at N;have q:=d.size;rw[am] at q;have b4:n<=22:=by
   rw[<-hn];have:=(ID i hi).2.1
   split <;> omega
  have ca:1<=n:=by rw[<-hn];split <;> omega
  have ch:=Dm hn;have cb:=Dm hg;have ci:=Dm hi;by_cases ac:bs.length<n
  ·have F:=Dm (Ss hg (by rw[hn];exact ac));have A:=Dm (show ask s.data.toList p (n:Int)=(0,2) from FS sX (by rw[a0];have:=bq.out;omega));clear ac hn hg an
   go_wp2_with fail
   refine N.mono ?_;rintro e w3 ⟨rfl,c⟩;have g:=d.trans (c.mono q);have G:=X.out _ g;have t:=Ef q c.size;clear d c q
   go_wp2_with fail
   refine(FP _ _ _ _ _ G).mono ?_;rintro e w4 ⟨rfl,u⟩;rw[A.out];have j:=g.trans (u.mono t);have a7:=a5.out _ j;obtain⟨c0,c1,c2,f0,f1,f2⟩:=CI a7
   go_wp2
   refine Is (C0 rfl _ _ B 153 _ (0,0) _ rfl (HR a7 false 0 0) Kz rfl tN) rfl ?_;exact RO (f:=2) wH (GC (GC (GC (X.out _ j) a) a) a) (GJ (GJ (GJ (a6.out _ j) b) b) b)
  ·have ad:n<=bs.length:=sX;obtain⟨v,hv⟩:=Ah (num (bs.take n));have A:=Dm (show ask s.data.toList p (n:Int)=((v:Int),0) by rw[EK (n:=(n:Int)) sX (by rw[a0];have:=bq.out;omega),Dp,b9.out,hv]);by_cases T:i=102
   ·subst T;have hn2:n=22:=by rw[<-hn,Bb rfl]
    subst hn2;have A:Hid (ask s.data.toList p (22:Int)=((v:Int),0)):=Dm A.out;have Q:=S0 hg ad;rw[hv] at Q;have ao:=fun x=>Y1g v x;obtain⟨q0,q1,q2⟩:=XY v;obtain⟨⟨l,r,y⟩,he⟩:=Ah (E5 v);rw[he] at Q ao q0 q1 q2;have m:=fun x R=>X5 l r y q0 ⟨q1,q2⟩ x R;have ax:=fun x=>T5 l (r:Int) y x;have b5:Hid (∀x,A9 prog 291 #[.int .i64 (v:Int)] x fun e w'=>e=.returned (.agg #[.bool l,.int .i64 (r:Int),.int .i64 y])/\Below x.heap.size x w'):=Dm ao;have bu:(p:Int)+22<=8*(s.size:Int):=by have:=bq.out;omega
    have bv:p<=1125899906842624:=sX;simp only at Q;cases hin:inT l r y.natAbs with
    |true=>
     rw[hin] at Q m;rw[Bb rfl] at m;rw[Bool.not_true,Jv,Ba sY] at Q;have F:=Dm Q;generalize plT l r y.natAbs=z at m;clear ac hn hg an Q ao he hv ad ax hin
     go_wp2_with fail
     refine N.mono ?_;rintro e w3 ⟨rfl,c⟩;have g:=d.trans (c.mono q);have G:=X.out _ g;have t:=Ef q c.size;clear d c q N
     go_wp2_with fail
     refine(FP _ _ _ _ _ G).mono ?_;rintro e w4 ⟨rfl,u⟩;rw[A.out];have j:=g.trans (u.mono t);have H:=Ef t u.size;clear g u G t
     go_wp2_with fail
     refine(b5.out _).mono ?_;rintro e O ⟨rfl,I⟩;have J:=j.trans (I.mono H);have ae:=Ef H I.size
     go_wp2_with fail
     have D:=J.alloc ae (.cells #[.bool l,.int .i64 (r:Int),.int .i64 y] 153 (0,0));have M:(O.alloc (.cells #[.bool l,.int .i64 (r:Int),.int .i64 y] 153 (0,0))).heap[O.heap.size]? =some (BD l r y):=heap_alloc_new O _;have S:(O.alloc (.cells #[.bool l,.int .i64 (r:Int),.int .i64 y] 153 (0,0))).heap.size=O.heap.size+1:=sZ;obtain⟨C,hC⟩:=Ah O.heap.size;rw[hC] at M S ae;rw[hC];generalize O.alloc (.cells #[.bool l,.int .i64 (r:Int),.int .i64 y] 153 (0,0))=w6 at D M S ⊢;clear j I J H hC;have E:B+1<=w6.heap.size:=sX;have a8:rb≠C:=wO;refine(m _ (bp.out _ D)).mono ?_;rintro e w7 ⟨rfl,o⟩;have K:=(o.block C sX).trans M;have L:=D.trans (o.mono E);have af:=Ef E o.size;have a9:C<w7.heap.size:=(E9.1 K).1;clear D o M E S m;have aq:=a5.out _ L;obtain⟨c0,c1,c2,f0,f1,f2⟩:=CI aq
     go_wp2
     refine Is (C0 rfl _ _ B 153 _ (0,0) _ rfl (HR aq false 0 0) Kz rfl tN) rfl ?_;exact RO (f:=7) wH (GC (GC (GC (X.out _ L) a) a) a) (GJ (GJ (GJ (a6.out _ L) b) b) b)
    |false=>
     rw[hin] at Q m;rw[Ba sY] at m;rw[Ju,Lb] at Q;have br:=Dm Q;clear ac hn hg an Q ao he hv ad hin
     go_wp2_with fail
     refine N.mono ?_;rintro e w3 ⟨rfl,c⟩;have g:=d.trans (c.mono q);have G:=X.out _ g;have t:=Ef q c.size;clear d c q N
     go_wp2_with fail
     refine(FP _ _ _ _ _ G).mono ?_;rintro e w4 ⟨rfl,u⟩;rw[A.out];have j:=g.trans (u.mono t);have H:=Ef t u.size;clear g u G t
     go_wp2_with fail
     refine(b5.out _).mono ?_;rintro e O ⟨rfl,I⟩;have J:=j.trans (I.mono H);have ae:=Ef H I.size
     go_wp2_with fail
     have D:=J.alloc ae (.cells #[.bool l,.int .i64 (r:Int),.int .i64 y] 153 (0,0));have M:(O.alloc (.cells #[.bool l,.int .i64 (r:Int),.int .i64 y] 153 (0,0))).heap[O.heap.size]? =some (BD l r y):=heap_alloc_new O _;have S:(O.alloc (.cells #[.bool l,.int .i64 (r:Int),.int .i64 y] 153 (0,0))).heap.size=O.heap.size+1:=sZ;obtain⟨C,hC⟩:=Ah O.heap.size;rw[hC] at M S ae;rw[hC];generalize O.alloc (.cells #[.bool l,.int .i64 (r:Int),.int .i64 y] 153 (0,0))=w6 at D M S ⊢;clear j I J H hC;have E:B+1<=w6.heap.size:=sX;have a8:rb≠C:=wO;refine(m _ (bp.out _ D)).mono ?_;rintro e w7 ⟨rfl,o⟩;have K:=(o.block C sX).trans M;have L:=D.trans (o.mono E);have af:=Ef E o.size;have a9:C<w7.heap.size:=(E9.1 K).1;clear D o M E S m;obtain⟨d0,d1,d2,k0,k1,k2⟩:=CI K
     go_wp2_with fail
     refine(ax _).mono ?_;rintro e U ⟨rfl,ag⟩;have V:=(ag.block C a9).trans K;have ah:=L.trans (ag.mono af);have P:=a5.out _ ah;have ai:=X.out _ ah;have aj:=a6.out _ ah;clear d0 d1 d2 k0 k1 k2 L ag af K ax;obtain⟨c0,c1,c2,f0,f1,f2⟩:=CI P;cases hrt:DL (r:Int) y with
     |false=>
      have F:=br.out;rw[hrt,Ba sY] at F;have F:=Dm F;clear br
      go_wp2
      refine Is (C0 rfl _ _ B 153 _ (0,0) _ rfl (HR P false 0 0) Kz rfl tN) rfl ?_;exact RO (f:=7) wH (GC (GC (GC ai a) a) a) (GJ (GJ (GJ aj b) b) b)
     |true=>
      have F:=br.out;rw[hrt,Bb rfl] at F;have F:=Dm F;obtain⟨d0,d1,d2,_,_,_⟩:=CI V;have ap:B<U.heap.size:=(E9.1 P).1;have ba:C<U.heap.size:=(E9.1 V).1;clear br
      go_wp2_with fail
      have b6:AE U.drew rb s p:=ai;have bb:w.grownBy U.drew (some rb):=AP aj (KU U _);have cc:U.drew.cell? ⟨C,0,none⟩=some (.bool l):=d0;have cd:U.drew.cell? ⟨C,1,none⟩=some (.int .i64 (r:Int)):=d1;have ce:U.drew.cell? ⟨C,2,none⟩=some (.int .i64 y):=d2;have bc:U.drew.heap[B]? =some (BD false 0 0):=P;have bd:U.drew.heap[C]? =some (BD l r y):=V;have bf:B<U.drew.heap.size:=ap;have bg:C<U.drew.heap.size:=ba;have cf:IntKind.i64.wrap ((p:Int)+22)=(p:Int)+22:=Kd _ sX;have k0:(0:Int)<=(p:Int)+22:=sX;have kn:((p:Int)+22).toNat=p+22:=sX;have bw:=Dm (fun(x:A5) (R:U.drew.grownBy x (some rb))=>((R.block B bf (by simpa using Ne.symm a)).trans bc:x.heap[B]? =some (BD false 0 0)));have bx:=Dm (fun(x:A5) (R:U.drew.grownBy x (some rb))=>((R.block C bg (by simpa using Ne.symm a8)).trans bd:x.heap[C]? =some (BD l r y)));clear c0 c1 c2 f0 f1 f2 d0 d1 d2 ap ba P V ai aj bc bd
      go_region_with (first
       |(go_at_call 28;refine(EF _ _ _ _ wY).mono ?_;rintro e w9 ⟨rfl,rfl⟩)
       |(go_at_call 91;refine(GQ _ _ _ _ _ wY sX sX).mono ?_;rintro e w9 ⟨rfl,ar,ak⟩;have au:=bw.out _ ak;obtain⟨c0,c1,c2,f0,f1,f2⟩:=CI au;obtain⟨b0,b1,b2,_,_,_⟩:=CI (bx.out _ ak)))
      all_goals
       rw[kn] at ar;have bh:=AP bb ak
       go_wp2
       refine Is (C0 rfl _ _ B 153 _ (0,0) _ rfl (HR au l r y) Kz rfl tN) rfl ?_;exact Vy wH (GC (GC (GC ar a) a) a) (GJ (GJ (GJ bh b) b) b)
   ·have ay:AS i+1=n:=by rw[<-hn,Ba T]
    have Q:=Sn hg T (by rw[ay];exact ad);rw[ay,hv] at Q;have az:=fun x R=>Qav i v sX x R;obtain⟨⟨l,r,y⟩,he⟩:=Ah (NP (evT i) (v%2==1));rw[he] at Q az;have F:=Dm Q;have cg:Hid (∀x,BH x->A9 prog 290 #[.int .i64 (i:Int),.int .i64 (v:Int)] x fun e w'=>e=.returned (.agg #[.bool l,.int .i64 (r:Int),.int .i64 y])/\Below x.heap.size x w'):=Dm az;have g0:((i:Int) != 102)=true:=tO;have bu:(p:Int)+n<=8*(s.size:Int):=by have:=bq.out;omega
    have bv:p<=1125899906842624:=sX;clear ac hn hg an Q az he hv ay T ad
    go_wp2_with fail
    refine N.mono ?_;rintro e w3 ⟨rfl,c⟩;have g:=d.trans (c.mono q);have G:=X.out _ g;have t:=Ef q c.size;clear d c q N
    go_wp2_with fail
    refine(FP _ _ _ _ _ G).mono ?_;rintro e w4 ⟨rfl,u⟩;rw[A.out];have j:=g.trans (u.mono t);clear g u G t;have H:=Ef (by omega:B+1<=W.heap.size) j.size
    go_wp2_with fail
    refine(cg.out _ (bp.out _ j)).mono ?_;rintro e O ⟨rfl,I⟩;have J:=j.trans (I.mono H);have bi:=X.out _ J;have bj:=a5.out _ J;have bz:=a6.out _ J;have ap:B<O.heap.size:=(E9.1 bj).1;clear j I H J
    go_wp2_with fail
    refine(EF _ _ _ _ bi).mono ?_;rintro e w6 ⟨rfl,rfl⟩
    go_wp2_with fail
    refine(GQ _ _ _ _ _ bi sX sX).mono ?_;rintro e w6 ⟨rfl,bk,bl⟩;rw[show ((p:Int)+n).toNat=p+n by omega] at bk;have bm:w6.heap[B]? =some (BD false 0 0):=(bl.block B ap (by simpa using Ne.symm a)).trans bj;have bn:=AP bz bl;obtain⟨c0,c1,c2,f0,f1,f2⟩:=CI bm
    go_wp2
    refine Is (C0 rfl _ _ B 153 _ (0,0) _ rfl (HR bm l r y) Kz rfl tN) rfl ?_;exact Vy wH (GC (GC (GC bk a) a) a) (GJ (GJ (GJ bn b) b) b)
 ·have F:=Dm (V5 hg hf);have bo:=a5.out _ d;obtain⟨c0,c1,c2,f0,f1,f2⟩:=CI bo;have g0:(f != 0)=true:=by simpa using hf
  clear hf hg
  go_wp2
  refine Is (C0 rfl _ _ B 153 _ (0,0) _ rfl (HR bo false 0 0) Kz rfl tN) rfl ?_;exact RO wH (GC (GC (GC (X.out _ d) a) a) a) (GJ (GJ (GJ (a6.out _ d) b) b) b)
theorem BH.grown {w a:A5}{rb p:Nat}{s:ByteArray}(h:BH w)(hr:AE w rb s p)(hg:w.grownBy a (some rb)):BH a:=by
 have far:∀b,(∀k x,w.cell? ⟨b,0,none⟩=some (.int k x)->b≠rb):=fun b k x hc e=>by
  subst e;rw[hr.cells.1] at hc;cases hc
 have c:=far _ _ _ (h.1 0 sY).1;have d:=far _ _ _ (h.1 0 sY).2;have f:=far _ _ _ (h.2 0 sY);exact⟨fun i hi=>⟨(hg.cell_far ⟨5,i,none⟩ h.lt.1 vJ).trans (h.1 i hi).1,(hg.cell_far ⟨6,i,none⟩ h.lt.2.1 tS).trans (h.1 i hi).2⟩,
  fun i hi=>(hg.cell_far ⟨7,i,none⟩ h.lt.2.2 (by simpa using f)).trans (h.2 i hi)⟩
theorem AE.under {w a:A5}{B rb p:Nat}{s:ByteArray}(h:AE w rb s p)(b:Below B w a)(c:rb<B):AE a rb s p:=⟨by rw[b.block rb c];exact h.1,h.2⟩
def Wg (s:ByteArray)(rb p:Nat)(i:Bool)(w:A5)(e:Ae)(a:A5):Prop:=
 ∃(d f:Int) (n q:Nat),dcT ((A2 s.data.toList).drop p) i=(d,f,n)/\e=.returned (.tuple #[.int .i64 d,.int .i64 f])/\AE a rb s q/\(f=0->q=p+n)/\w.grownBy a (some rb)
theorem P5 {s:ByteArray}{rb p q n:Nat}{i:Bool}{w a:A5}{d f:Int}(h:dcT ((A2 s.data.toList).drop p) i=(d,f,n))(hr:AE a rb s q)(b:f=0->q=p+n)(hg:w.grownBy a (some rb)):
  Wg s rb p i w (.returned (.tuple #[.int .i64 d,.int .i64 f])) a:=⟨d,f,n,q,h,rfl,hr,b,hg⟩
theorem Y68 (w:A5)(rb:Nat)(s:ByteArray)(p:Nat)(i:Bool)(hr:AE w rb s p):
  A9 prog 255 #[.pointer (some ⟨rb,0,none⟩),.bool i] w (Wg s rb p i w):=by
 have m:w.grownBy w (some rb):=BF (Dn _ w) _;cases i with
 |false=>
  go_enter func255,Ld
  go_wp2
  go_ret2
  exact P5 rfl hr (fun _=>rfl) m
 |true=>
  have q:s.data.toList.length=s.size:=rfl;have z:=hr.2.1;have r:((A2 s.data.toList).drop p).length=8*s.size-p:=by rw[Bf,AZ];rfl
  have g:=JH w rb s p 8 hr;by_cases y:8*s.size<p+8
  ·have A:=FS (l:=s.data.toList) (p:=p) (n:=8) sY (by rw[q];omega);have F:=Dm (TC (b:=(A2 s.data.toList).drop p) sX);have Q:CM s.data.toList p 8=p:=by unfold CM;rw[A];rfl
   rw[A,Q] at g;clear m hr r y A Q
   exact Wc7
  ·have A:=EK (l:=s.data.toList) (p:=p) (n:=8) sY (by rw[q];omega);have Q:CM s.data.toList p 8=p+8:=by unfold CM;rw[A];rfl
   obtain⟨v,hv⟩:=Ah (num (((A2 s.data.toList).drop p).take 8));have o:AB s.data.toList p (8:Int).toNat=v:=hv;have B:v<256:=by rw[<-o];exact EB _ _ 8
   rw[A,Q,o] at g;have d:8<=((A2 s.data.toList).drop p).length:=sX;clear m hr r y A Q o;by_cases f:v=255
   ·subst f;have F:=Dm (S4 d hv);clear hv d
    exact Wda
   have k:((v:Int)==255)=false:=uC;by_cases j:v=128
   ·subst j;have F:=Dm (Tu d (.inr hv));clear hv d k f
    exact Wc7
   have t:((v:Int)==128)=false:=uC;by_cases x:v=0
   ·subst x;have F:=Dm (Tu d (.inl hv));clear hv d k f t j
    exact Wc7
   have t0:decide ((v:Int)<1)=false:=tO;have F:=Dm (SH d hv x j f);clear hv d f j x
   exact Wda
def W7 (s:ByteArray)(rb p a:Nat)(w:A5)(e:Ae)(b:A5):Prop:=
 ∃(L:List Ev) (f:Int) (n t:Nat) (q:Option Aa) (c:Nat),C4 (A2 s.data.toList) (65-a) [] p a=(L,f,n)/\e=.returned (.tuple #[.slice q L.length c,.int .i64 f])/\CX b q L/\CV w.heap.size q/\AE b rb s t/\(f=0->t=n)/\w.grownBy b (some rb)
theorem Uu {s:ByteArray}{rb p a n t c m:Nat}{w b:A5}{L:List Ev}{f:Int}{q:Option Aa}(h:C4 (A2 s.data.toList) (65-a) [] p a=(L,f,n))(hm:L.length=m)(e:CX b q L)(d:CV w.heap.size q)(hr:AE b rb s t)(ht:f=0->t=n)(hg:w.grownBy b (some rb)):
  W7 s rb p a w (.returned (.tuple #[.slice q m c,.int .i64 f])) b:=⟨L,f,n,t,q,c,h,by rw[hm],e,d,hr,ht,hg⟩
set_option maxRecDepth 100000 in
theorem Y3u (w:A5)(rb:Nat)(s:ByteArray)(p a:Nat)(ha:a<=1)(hp:BH w)(hr:AE w rb s p):
  A9 prog 256 #[.pointer (some ⟨rb,0,none⟩),.int .i64 (a:Int)] w (W7 s rb p a w):=by
 obtain⟨i1,hj,H,I,J⟩:=Ds T3;obtain⟨B,hB⟩:=Ah w.heap.size;have ap:rb<B:=by rw[<-hB];exact hr.lt
 have ab:w.grownBy w (some rb):=BF (Dn _ w) _;have a3:=Dm hB;have ac:B<=w.heap.size:=sX;have LT:=Dm (show 5<B/\6<B/\7<B by rw[<-hB];exact hp.lt);have aq:w.heap.size<=B:=sX;obtain⟨S,hS⟩:=Ah (A2 s.data.toList);have ar:=Dm hS;have a4:S.length=8*s.size:=by rw[<-hS,AZ];rfl
 have y:=fun x t K hy=>iU x rb s t K hy;unfold Rq at y;rw[hS] at y;have au:=Dm y;clear hB hS y
 go_enter func256,ntmps256
 go_wp2
 go_step3
 go_wp2
 go_step3
 go_wp2
 go_loopw [1,6] (fun u v wr=>∃(acc:List Ev) (m t:Nat),u=.int .i64 m/\m<=64/\acc.length<=m/\wr.ownsRow B 153 3 v acc.length (HG acc)/\EvR S a p acc m t/\AE wr rb s t/\w.grownBy wr (some rb)/\B<=wr.heap.size/\BH wr) (fun u _ _=>65-(RowKit.intOf u).toNat)
 case atStart=>exact⟨[],a,p,rfl,sX,Do _,Dj _ _ _ _,EvR.first _ _ _,hr,ab,ac,hp⟩
 case round=>
  clear hr ab ac hp;obtain⟨acc,m,t,rfl,hm,av,z,ad,hr,hg,hz,hT⟩:=hrel;obtain⟨⟨l,r,v⟩,f,n,c⟩:∃x f n,etk (S.drop t)=(x,f,n):=⟨_,_,_,rfl⟩;obtain⟨a2,aw⟩:=UJ c;have L:=au.out _ t hT hr;rw[c] at L;simp only[NC] at L;obtain⟨al,E⟩:=Ah acc.length;have ax:=Dm E;rw[E] at z av;have A:=Dm c;have ST:=Dm ad;have ae:=Dm (fun(x:A5) (K:wr.grownBy x (some rb))=>(⟨AP hg K,Ef hz K.size,hT.grown hr K,z.kept K (.inr fun e=>by have:=(z.lt _ e).1;omega)⟩:w.grownBy x (some rb)/\B<=x.heap.size/\BH x/\x.ownsRow B 153 3 u6 al (HG acc)));clear c aw hg hT z ad E hr
  go_wp2_with fail
  refine L.mono ?_;rintro e w1 ⟨rfl,af,ag⟩;obtain⟨ah,ai,aj,d⟩:=ae.out _ ag;clear ag L ae;obtain⟨X,hX⟩:=Ah w1.heap.size;obtain⟨wx,C⟩:=Ah (w1.alloc (.cells #[.bool l,.int .i64 (r:Int),.int .i64 v] 153 (0,0)));have M:wx.heap.size=X+1:=by rw[<-C,<-hX];simp
  have W:wx.heap[X]? =some (BD l (r:Int) v):=by rw[<-C,<-hX];exact heap_alloc_new w1 _
  have ak:Below B w1 wx:=by rw[<-C];exact(Dn _ _).alloc ai _
  have O:wx.ownsRow B 153 3 u6 al (HG acc):=by rw[<-C];exact d.alloc _
  have Y:∀q,Value.ownBlock u6=some q->B<=q/\q<X:=fun q hq=>by have:=d.lt q hq;omega
  have ao:=Dm hX;have P:=Dm C;have am:=Dm (show B<=X by omega);have Q:=Dm (fun(x:A5) (o:Obj) (K:(wx.alloc o).grownBy x (Value.ownBlock u6))=>(by
   have hb:Below B w1 x:=(ak.alloc (by have:=am.out;omega) o).grown K (by simp;have:=am.out;omega) (fun q hq=>(Y q hq).1);have ay:x.heap[X]? =some (BD l (r:Int) v):=by
    rw[K.block X tO (fun e=>by have:=(Y X e.symm).2;omega)];exact BM W
   exact⟨jL ah hb aq,Ef ai hb.size,aj.under hb LT.out,af.under hb ap,ay⟩:w.grownBy x (some rb)/\B<=x.heap.size/\BH x/\AE x rb s (t+n)/\x.heap[X]? =some (BD l (r:Int) v)))
  obtain⟨c0,c1,c2,_,_,_⟩:=CI W;have a5:B<=wx.heap.size:=sX;clear hX C ak W Y ah aj af d;by_cases Z:f=0
  ·have g0:(f != 0)=false:=by simpa using Z
   have c:=A.out;rw[Z] at c;have A:=Dm c;clear Z c;by_cases R:63<m+r
   ·have t3:decide (63<(m:Int)+(r:Int))=true:=tO;have F:=Dm (ST.out.far hm A.out R);clear R
    go_wp2_with (at_builtin;rw[P.out,ao.out,<-M];refine O1 (y0:=l) (y1:=(r:Int)) (y2:=v) rfl rfl L6 hj H rfl I J rfl (O.alloc _) rfl ?d1 ?d2 ?d3 ?d4 ?d5 ?_;(case d1=>go_cell);(case d2=>go_cell);(case d3=>go_cell);(case d4=>omega);(case d5=>(simp;omega));intro v2 w2 D b g;clear g;obtain⟨i,T,U,j,k⟩:=Q.out _ _ b;obtain⟨e0,e1,e2,_,_,_⟩:=CI k;clear b)
    rw[L3]
    go_ret2
    exact Uu (by rw[ar.out];exact F.out) rfl (.inl rfl) (CV.none _) j (fun h=>uA) i
   ·have t3:decide (63<(m:Int)+(r:Int))=false:=tO;cases l with
    |true=>
     have F:=Dm (ST.out.end hm A.out sX);have V:(acc++[(true,(r:Int),v)]).length=al+1:=by rw[B8,ax.out];rfl
     have G:=Dm V;have az:=Dm (Tb acc (true,(r:Int),v));clear R V
     go_wp2_with (at_builtin;rw[P.out,ao.out,<-M];refine O1 (y0:=true) (y1:=(r:Int)) (y2:=v) rfl rfl L6 hj H rfl I J rfl (O.alloc _) rfl ?d1 ?d2 ?d3 ?d4 ?d5 ?_;(case d1=>go_cell);(case d2=>go_cell);(case d3=>go_cell);(case d4=>omega);(case d5=>(simp;omega));intro v2 w2 D b g;clear g;obtain⟨i,T,U,j,k⟩:=Q.out _ _ b;obtain⟨e0,e1,e2,_,_,_⟩:=CI k;clear b)
     rw[L3];have aa:w2.ownsRow B 153 3 v2 (acc++[(true,(r:Int),v)]).length (HG (acc++[(true,(r:Int),v)])):=by rw[G.out,az.out];exact D
     obtain⟨q,cap,rfl,an⟩:=ZN aa;have a0:=Dm an;have a1:=Dm (aT aa);rw[G.out];clear D aa an
     go_ret2
     exact Uu (by rw[ar.out];exact F.out) G.out a0.out (by rw[a3.out];exact a1.out) j (fun _=>rfl) i
    |false=>
     have N:=Dm (ST.out.on hm A.out sX);have a6:m+r<=63:=sX;clear R
     go_wp2_with (at_builtin;rw[P.out,ao.out,<-M];refine O1 (y0:=false) (y1:=(r:Int)) (y2:=v) rfl rfl L6 hj H rfl I J rfl (O.alloc _) rfl ?d1 ?d2 ?d3 ?d4 ?d5 ?_;(case d1=>go_cell);(case d2=>go_cell);(case d3=>go_cell);(case d4=>omega);(case d5=>(simp;omega));intro v2 w2 D b g;clear g;obtain⟨i,T,U,j,k⟩:=Q.out _ _ b;obtain⟨e0,e1,e2,_,_,_⟩:=CI k;clear b)
     go_roundw
     case rel=>exact⟨acc++[(false,(r:Int),v)],m+r+1,t+n,tP,sX,by rw[B8,ax.out];simp;omega,by rw[B8,Tb,ax.out];exact D,N.out,j,i,T,U⟩
     case measure=>simp[RowKit.intOf];omega
  ·have g0:(f != 0)=true:=by simpa using Z
   have F:=Dm (ST.out.err hm A.out Z);have a7:=Dm Z;clear Z
   go_wp2_with (at_builtin;rw[P.out,ao.out,<-M];refine O1 (y0:=l) (y1:=(r:Int)) (y2:=v) rfl rfl L6 hj H rfl I J rfl (O.alloc _) rfl ?d1 ?d2 ?d3 ?d4 ?d5 ?_;(case d1=>go_cell);(case d2=>go_cell);(case d3=>go_cell);(case d4=>omega);(case d5=>(simp;omega));intro v2 w2 D b g;clear g;obtain⟨i,T,U,j,k⟩:=Q.out _ _ b;obtain⟨e0,e1,e2,_,_,_⟩:=CI k;clear b)
   rw[L3]
   go_ret2
   exact Uu (by rw[ar.out];exact F.out) rfl (.inl rfl) (CV.none _) j (fun h=>absurd h a7.out) i
def Vd (s:ByteArray)(rb p:Nat)(i c:Bool)(w:A5)(e:Ae)(a:A5):Prop:=
 ∃(d:Int) (L:List Ev) (f:Int) (t m:Nat) (q:Option Aa) (cap:Nat),e=.returned (.tuple #[.int .i64 d,.slice q m cap,.int .i64 f])/\L.length=m/\CX a q L/\CV w.heap.size q/\AE a rb s t/\w.grownBy a (some rb)/\(f=0->btk (A2 s.data.toList) p i c=(d,L,t,0))/\(f≠0->btk (A2 s.data.toList) p i c=(0,[],p,f))
theorem Qkd (w:A5)(rb:Nat)(s:ByteArray)(p:Nat)(i c:Bool)(M:BH w)(hr:AE w rb s p):
  A9 prog 241 #[.pointer (some ⟨rb,0,none⟩),.bool i,.bool c] w (Vd s rb p i c w):=by
 have l:=Y68 w rb s p i hr;have r:=fun x=>Uw i x;have N:BI i<=1:=by cases i <;> decide
 have b:=fun x p B R=>Y3u x rb s p (BI i) N B R;obtain⟨S,t⟩:=Ah (A2 s.data.toList);have ab:=Dm t;have T:=Dm (fun(x:A5) (B:w.grownBy x (some rb))=>(M.grown hr B:BH x));unfold Vd;rw[t];unfold Wg at l;rw[t] at l;unfold W7 at b;rw[t] at b;have O:=Dm (fun(d:Int) (n:Nat) (L:List Ev) (f:Int) (e:Nat) (h:dcT (S.drop p) i=(d,0,n)) (P:C4 S (65-BI i) [] (p+n) (BI i)=(L,f,e))=>(⟨fun g=>UD h P g,fun g=>Sp h (by rw[P,g])⟩:(f≠0->btk S p i true=(0,[],p,f))/\(f=0->btk S p i true=(d,L,e,0))));generalize BI i=a at r b O N;have U:=Dm b;clear M hr t b
 go_enter func241,ntmps241
 go_wp2_with fail
 refine l.mono ?_;rintro e w1 ⟨d,f,n,q,j,rfl,o,A,k⟩;have C:=T.out _ k;have u:=Dm j;have V:=Dm A;clear j A l;by_cases g:f=0
 ·have W:(f != 0)=false:=vU;have A:=V.out g;have j:=u.out;rw[g] at j;subst A;have u:=Dm j;have D:=Dm g;clear j g;cases c with
  |false=>
   have F:=Dm (SA u.out)
   go_wp2
   go_ret3
   exact⟨d,[],f,p+n,0,none,0,rfl,rfl,.inl rfl,CV.none _,o,k,fun _=>F.out,fun h=>absurd D.out h⟩
  |true=>
   go_wp2_with fail
   refine(r _).mono ?_;rintro e X ⟨rfl,rfl⟩
   go_wp2_with fail
   refine(U.out _ _ C o).mono ?_;rintro e X ⟨L,f2,Y,t2,Z,c2,v,rfl,b,y,E,z,G⟩;have Q:=Dm (O.out d n L f2 Y u.out v);have H:=Dm z;have I:=Dm b;have J:=Dm (y.mono k.size);have K:=AP k G;clear v z b y;obtain⟨m,hm⟩:=Ah L.length;have aa:=Dm hm;rw[hm];clear hm
   go_wp2
   go_ret3
   exact⟨d,L,f2,t2,m,Z,c2,rfl,aa.out,I.out,J.out,E,K,fun h=>by rw[H.out h];exact Q.out.2 h,Q.out.1⟩
 ·have W:(f != 0)=true:=vU;have F:=Dm (Ws (c:=c) u.out g);have D:=Dm g;clear g
  go_wp2
  go_ret3
  exact⟨d,[],f,q,0,none,0,rfl,rfl,.inl rfl,CV.none _,o,k,fun h=>absurd h D.out,fun _=>F.out⟩
def TN (s:ByteArray)(rb p:Nat)(i c:Bool)(w:A5)(e:Ae)(a:A5):Prop:=
 ∃(d:Int) (L:List Ev) (f:Int) (t m:Nat) (q:Option Aa) (cap:Nat),btk (A2 s.data.toList) p i c=(d,L,t,f)/\e=.returned (.tuple #[.int .i64 d,.slice q m cap,.int .i64 f])/\L.length=m/\CX a q L/\AE a rb s t/\w.grownBy a (some rb)/\CV w.heap.size q
theorem Qed (w:A5)(rb:Nat)(s:ByteArray)(p:Nat)(i c:Bool)(z:BH w)(hr:AE w rb s p):
  A9 prog 230 #[.pointer (some ⟨rb,0,none⟩),.bool i,.bool c] w (TN s rb p i c w):=by
 have a:=Qkd w rb s p i c z hr;have A:=hr.2.1;have b:=EF w rb s p hr;unfold Vd at a;unfold TN;generalize B:A2 s.data.toList=S at a ⊢;clear B z hr
 go_enter func230,ntmps230
 go_wp2_with fail
 refine b.mono ?_;rintro e C ⟨rfl,rfl⟩
 go_wp2_with fail
 refine a.mono ?_;rintro e C ⟨d,L,f,t,m,q,cap,rfl,hm,g,h,n,o,j,k⟩;have D:=Dm hm;have u:=Dm g;have v:=Dm h;by_cases l:f=0
 ·have E:(f != 0)=false:=by simpa using l
  have F:=Dm (j l);clear l j k hm g b a h
  go_wp2
  go_ret3
  exact⟨d,L,0,t,m,q,cap,F.out,rfl,D.out,u.out,n,o,v.out⟩
 ·have E:(f != 0)=true:=by simpa using l
  have F:=Dm (k l);clear l j k hm g b a h
  go_wp2_with fail
  refine(GQ _ _ _ _ (p:Int) n sX sX).mono ?_;rintro e G ⟨rfl,r,x⟩;rw[Dp] at r;have y:=AP o x
  go_wp2
  go_ret3
  exact⟨0,[],f,p,0,none,0,F.out,rfl,rfl,.inl rfl,r,y,CV.none _⟩
theorem LX (k:Int)(w:A5):A9 prog 52 #[.int .i64 k] w fun e a=>e=.returned (.bool (AG k))/\w=a:=by
 cases h3:(k==3) with
 |true=>
  go_enter func52,ntmps52
  go_wp2
  go_ret
  exact⟨AJ (by simp[AG,h3]),rfl⟩
 |false=>
  cases h4:(k==4) with
  |true=>
   exact Wdd
  |false=>
   exact Wdd
def OO:List ByteArray:=[⟨#[49,48,32,49,49,49,49,32,48,49,48,49,48,49,32,48,48,49,48,49,49,49,32,48,48,48,49,49,49,49,49,32,48,48,48,49,48,48,49,48,49,32,48,48,48,49,48,48,49,48,48,32,48,48,48,48,49,48,48,48,48,49,32,48,48,48,48,49,48,48,48,48,48,32,48,48,48,48,48,48,48,48,49,49,49,32,48,48,48,48,48,48,48,48,49,49,48,32,48,48,48,48,48,49,48,48,48,48,48]⟩,⟨#[49,49,48,32,48,49,48,49,48,48,32,48,48,48,49,49,49,49,48,32,48,48,48,48,48,48,49,49,49,49,32,48,48,48,48,48,49,48,48,48,48,49,32,48,48,48,48,48,49,48,49,48,48,48,48]⟩,⟨#[49,49,49,48,32,48,48,48,49,49,49,48,49,32,48,48,48,48,48,48,49,49,49,48,32,48,48,48,48,48,49,48,49,48,48,48,49]⟩,⟨#[48,49,49,48,49,32,48,48,48,49,48,48,48,49,49,32,48,48,48,48,48,48,49,49,48,49]⟩,⟨#[48,49,49,48,48,32,48,48,48,49,48,48,48,49,48,32,48,48,48,48,48,49,48,49,48,48,49,48]⟩,⟨#[48,49,48,49,49,32,48,48,48,48,48,48,49,49,48,48,32,48,48,48,48,48,49,48,49,48,48,49,49]⟩,⟨#[48,49,48,48,49,49,32,48,48,48,48,48,48,49,48,49,49,32,48,48,48,48,48,49,48,49,48,49,48,48]⟩,⟨#[48,49,48,48,49,48,32,48,48,48,48,48,48,49,48,49,48]⟩,⟨#[48,49,48,48,48,49,32,48,48,48,48,48,48,49,48,48,49]⟩,⟨#[48,49,48,48,48,48,32,48,48,48,48,48,48,49,48,48,48]⟩,⟨#[48,48,49,48,49,49,48,32,48,48,48,48,48,49,48,49,48,49,48,49]⟩,⟨#[48,48,49,48,49,48,49]⟩,⟨#[48,48,49,48,49,48,48]⟩,⟨#[48,48,48,49,49,49,48,48]⟩,⟨#[48,48,48,49,49,48,49,49]⟩,⟨#[48,48,48,49,48,48,48,48,49]⟩,⟨#[48,48,48,49,48,48,48,48,48]⟩,⟨#[48,48,48,48,49,49,49,49,49]⟩,⟨#[48,48,48,48,49,49,49,49,48]⟩,⟨#[48,48,48,48,49,49,49,48,49]⟩,⟨#[48,48,48,48,49,49,49,48,48]⟩,⟨#[48,48,48,48,49,49,48,49,49]⟩,⟨#[48,48,48,48,49,49,48,49,48]⟩,⟨#[48,48,48,48,48,49,48,48,48,49,48]⟩,⟨#[48,48,48,48,48,49,48,48,48,49,49]⟩,⟨#[48,48,48,48,48,49,48,49,48,49,49,48]⟩,⟨#[48,48,48,48,48,49,48,49,48,49,49,49]⟩]
def PJ:List ByteArray:=[⟨#[48,49,49,49,32,48,48,48,48,49,49,48,48,49,32,48,48,48,48,48,48,48,48,49,48,49]⟩,⟨#[48,48,49,49,49,49,32,48,48,48,48,48,48,48,48,49,48,48]⟩,⟨#[48,48,49,49,49,48]⟩,⟨#[48,48,49,49,48,49]⟩,⟨#[48,48,49,49,48,48]⟩,⟨#[48,48,49,48,48,49,49]⟩,⟨#[48,48,49,48,48,49,48]⟩,⟨#[48,48,49,48,48,48,49]⟩,⟨#[48,48,49,48,48,48,48]⟩,⟨#[48,48,48,49,49,48,49,48]⟩,⟨#[48,48,48,49,49,48,48,49]⟩,⟨#[48,48,48,49,49,48,48,48]⟩,⟨#[48,48,48,49,48,49,49,49]⟩,⟨#[48,48,48,49,48,49,49,48]⟩,⟨#[48,48,48,49,48,49,48,49]⟩,⟨#[48,48,48,49,48,49,48,48]⟩,⟨#[48,48,48,49,48,48,49,49]⟩,⟨#[48,48,48,48,49,49,48,48,48]⟩,⟨#[48,48,48,48,49,48,49,49,49]⟩,⟨#[48,48,48,48,49,48,49,49,48]⟩,⟨#[48,48,48,48,49,48,49,48,49]⟩,⟨#[48,48,48,48,49,48,49,48,48]⟩,⟨#[48,48,48,48,49,48,48,49,49]⟩,⟨#[48,48,48,48,49,48,48,49,48]⟩,⟨#[48,48,48,48,49,48,48,48,49]⟩,⟨#[48,48,48,48,48,48,48,49,49,49]⟩,⟨#[48,48,48,48,48,48,48,49,49,48]⟩,⟨#[48,48,48,48,48,48,48,49,48,49]⟩,⟨#[48,48,48,48,48,48,48,49,48,48]⟩,⟨#[48,48,48,48,48,49,48,48,49,48,48]⟩,⟨#[48,48,48,48,48,49,48,48,49,48,49]⟩,⟨#[48,48,48,48,48,49,48,48,49,49,48]⟩,⟨#[48,48,48,48,48,49,48,48,49,49,49]⟩,⟨#[48,48,48,48,48,49,48,49,49,48,48,48]⟩,⟨#[48,48,48,48,48,49,48,49,49,48,48,49]⟩,⟨#[48,48,48,48,48,49,48,49,49,48,49,48]⟩,⟨#[48,48,48,48,48,49,48,49,49,48,49,49]⟩,⟨#[48,48,48,48,48,49,48,49,49,49,48,48]⟩,⟨#[48,48,48,48,48,49,48,49,49,49,48,49]⟩,⟨#[48,48,48,48,48,49,48,49,49,49,49,48]⟩,⟨#[48,48,48,48,48,49,48,49,49,49,49,49]⟩]
theorem Qz:OO.length=27:=rfl
theorem Qn:PJ.length=41:=rfl
def FC (last:Bool)(run:Nat):List Nat:=(List.range (C5 last run)).map fun i=>H2 last+EI last run+i
def K6 (last:Bool)(run:Nat):List (List UInt8):=(FC last run).map fun p=>rowC (GO p)
theorem iK:∀r,(h:r<27)->Qm (OO[r]'(by rw[Qz];exact h)).data.toList=K6 false r/\(OO[r]'(by rw[Qz];exact h)).size<=200:=uB
theorem Qfi:∀r,(h:r<41)->Qm (PJ[r]'(by rw[Qn];exact h)).data.toList=K6 true r/\(PJ[r]'(by rw[Qn];exact h)).size<=200:=uB
theorem Yq {last:Bool}{r:Nat}(h:(if last then 41 else 27)<=r):K6 last r=[]:=by
 have a:C5 last r=0:=by
  unfold C5;cases last
  ·simp only[Jm,Iw] at h ⊢;rw[Ba sX,Ba sX]
  ·simp only[Jw] at h ⊢;rw[Ba sX,Ba sX,Ba sX]
 unfold K6 FC;rw[a]
 rfl
set_option maxRecDepth 100000 in
theorem RJ (w:A5):A9 prog 181 #[] w fun e a=>e=.returned (.slice (some ⟨w.heap.size,0,none⟩) 27 27)/\DN a (some ⟨w.heap.size,0,none⟩) OO/\Below w.heap.size w a:=by
 go_enter func181,ntmps181
 go_wp2
 go_ret
 exact⟨rfl,R4 (T:=9) (l:=OO) (heap_alloc_new w _),(Dn _ w).alloc (B9 _) _⟩
set_option maxRecDepth 100000 in
theorem ZW (w:A5):A9 prog 182 #[] w fun e a=>e=.returned (.slice (some ⟨w.heap.size,0,none⟩) 41 41)/\DN a (some ⟨w.heap.size,0,none⟩) PJ/\Below w.heap.size w a:=by
 go_enter func182,ntmps182
 go_wp2
 go_ret
 exact⟨rfl,R4 (T:=9) (l:=PJ) (heap_alloc_new w _),(Dn _ w).alloc (B9 _) _⟩
def Qq7 (last:Bool)(run:Nat)(w:A5)(e:Ae)(b:A5):Prop:=
 ∃(l:List ByteArray) (q:Option Aa) (cap:Nat),e=.returned (.slice q l.length cap)/\I1 l=K6 last run/\DN b q l/\(∀a,q=some a->w.heap.size<=a.block)/\Below w.heap.size w b
set_option maxRecDepth 100000 in
theorem Y4 (last:Bool)(run:Nat)(hr:run<64)(w:A5):A9 prog 163 #[.bool last,.int .i64 (run:Int)] w (Qq7 last run w):=by
 cases last with
 |false=>
  by_cases h:27<=run
  ·have F:=Dm (Yq (last:=false) (r:=run) h);have t0:decide (27<=(run:Int))=true:=tO;have t1:decide (27<=run)=true:=uQ
   go_enter func163,ntmps163
   go_wp2_with fail
   refine(RJ _).mono ?_;rintro e j ⟨rfl,c,f⟩
   go_wp2
   go_ret
   exact⟨[],none,0,rfl,vH,.inl rfl,fun _ h=>uA,f⟩
  ·obtain⟨f1,f2⟩:=iK run sX;have t0:decide (27<=(run:Int))=false:=tO;have t1:decide (27<=run)=false:=uQ;obtain⟨s,hs⟩:∃s,OO[run]'(by rw[Qz];omega)=s:=⟨_,rfl⟩;rw[hs] at f1 f2;have F:=Dm f1;have n:=Dm hs;clear f1 hs
   go_enter func163,ntmps163
   go_wp2_with fail
   refine(RJ _).mono ?_;rintro e j ⟨rfl,c,f⟩;obtain⟨b,o,e,_,hc⟩:=c.at (by rw[Qz];omega);cases e;have c0:j.cell? ⟨w.heap.size,0+run,none⟩=some (.string s):=(hc run (by rw[Qz];omega)).trans (Bz (fun x=>some (Value.string x)) n.out);rw[Bn] at c0;have k:=f.size;clear hc
   go_wp2_with fail
   refine(bO s f2 _).mono ?_;rintro e u ⟨l,q,cap,rfl,h1,h2,h3,h4,g⟩;have p:=Dm h1;have t:=Dm h4;clear h1 h4
   go_wp2
   go_ret
   exact⟨l,q,cap,rfl,p.out.trans F.out,h2,fun a h=>Ef k (t.out a h),f.trans (g.mono k)⟩
 |true=>
  by_cases h:41<=run
  ·have F:=Dm (Yq (last:=true) (r:=run) h);have t0:decide (41<=(run:Int))=true:=tO;have t1:decide (41<=run)=true:=uQ
   go_enter func163,ntmps163
   go_wp2_with fail
   refine(RJ _).mono ?_;rintro e w0 ⟨rfl,_,d⟩;have i:=d.size
   go_wp2_with fail
   refine(ZW _).mono ?_;rintro e j ⟨rfl,c,f⟩
   go_wp2
   go_ret
   exact⟨[],none,0,rfl,vH,.inl rfl,fun _ h=>uA,d.trans (f.mono i)⟩
  ·obtain⟨f1,f2⟩:=Qfi run sX;have t0:decide (41<=(run:Int))=false:=tO;have t1:decide (41<=run)=false:=uQ;obtain⟨s,hs⟩:∃s,PJ[run]'(by rw[Qn];omega)=s:=⟨_,rfl⟩;rw[hs] at f1 f2;have F:=Dm f1;have n:=Dm hs;clear f1 hs
   go_enter func163,ntmps163
   go_wp2_with fail
   refine(RJ _).mono ?_;rintro e w0 ⟨rfl,_,d⟩;have i:=d.size
   go_wp2_with fail
   refine(ZW _).mono ?_;rintro e j ⟨rfl,c,f⟩;obtain⟨b,o,e,_,hc⟩:=c.at (by rw[Qn];omega);cases e;have c0:j.cell? ⟨w0.heap.size,0+run,none⟩=some (.string s):=(hc run (by rw[Qn];omega)).trans (Bz (fun x=>some (Value.string x)) n.out);rw[Bn] at c0;have m:=d.trans (f.mono i);have k:=m.size;clear hc
   go_wp2_with fail
   refine(bO s f2 _).mono ?_;rintro e u ⟨l,q,cap,rfl,h1,h2,h3,h4,g⟩;have p:=Dm h1;have t:=Dm h4;clear h1 h4
   go_wp2
   go_ret
   exact⟨l,q,cap,rfl,p.out.trans F.out,h2,fun a h=>Ef k (t.out a h),m.trans (g.mono k)⟩
end
section
open Go.RowKit Go.Lib Go.ChangeShapes Go.WideShapes Go.ChangeAt
theorem U5:(Rows.laid_overspill_tcoef_codes:Ad Unit)=tabData .u16 (Vj.map fun z:Nat=>(z:Int))/\(Rows.laid_overspill_tcoef_lengths:Ad Unit)=tabData .u8 (VQ.map fun z:Nat=>(z:Int))/\(Rows.laid_overspill_tcoef_ahead:Ad Unit)=tabData .u8 (T8.map fun z:Nat=>(z:Int)):=⟨tN,tN,tN⟩
theorem dJ (l:List Nat)(i:Nat)(h:i<(l.map fun z:Nat=>(z:Int)).length):(l.map fun z:Nat=>(z:Int))[i]=((l[i]?.getD 0:Nat):Int):=by
 have h2:i<l.length:=uQ;rw[Ke,Fh h2]
 rfl
theorem Ua {P:Program}{W:A5}{a:List (String×Ad Unit)}{m:List MemPlace}{b:String}{k:IntKind}{zs:List Int}{g:Nat}{t e:TypeId}{n:Nat}(hv:DataW.LaidVars P W a m)(hm:(b,(tabData k zs:Ad Unit))∈a)
  (hg:P.globalNamed b=some g)(ht:(P.globals[g]?).map (·.type)=some t)(o:P.underlying t=some (.array n e))(q:P.underlying e=some (.int k))(d:P.cellsOf e=1)(f:P.cellsOf t=n)(i:Nat)(hi:i<zs.length):
  W.cell? ⟨g,i,none⟩=some (.int k zs[i]):=by
 obtain⟨r,s,cs,l,p,h,j,hc,hd⟩:=Qs hv hm;obtain rfl:=Fk (hg.symm.trans h);obtain rfl:=Fk (ht.symm.trans j);have h1:=cells_of_tab o q d f hd;have c:=Ij hg hc i;rw[c,<-Ii,h1,Ig,Fh hi]
 rfl
theorem Qc1 {laid : List (String × DataW Unit)} {W : World} (hL : laidMetH prog laid W) (hm : (("overspill/tcoef.codes", Rows.laid_overspill_tcoef_codes) ∈ laid ∧ ("overspill/tcoef.lengths", Rows.laid_overspill_tcoef_lengths) ∈ laid ∧ ("overspill/tcoef.ahead", Rows.laid_overspill_tcoef_ahead) ∈ laid) ∧ (laid.all fun x => x.2.handleName?.isNone) = true) : BH W := by
 rw[J3 _ _ _ hm.2] at hL;obtain⟨ps,hv,_,_⟩:=hL;obtain⟨h1,h2,h3⟩:=hm.1;rw[U5.1] at h1;rw[U5.2.1] at h2;rw[U5.2.2] at h3;have hlc:(Vj.map fun z:Nat=>(z:Int)).length=103:=rfl;have hll:(VQ.map fun z:Nat=>(z:Int)).length=103:=rfl;have hla:(T8.map fun z:Nat=>(z:Int)).length=11:=rfl;refine⟨fun i hi=>?_,fun i hi=>?_⟩
 ·have g1:=Ua hv h1 (g:=5) (t:=267) tN tN underlying267 underlying266 tN tN i (by rw[hlc];exact hi);have g2:=Ua hv h2 (g:=6) (t:=268) tN tN underlying268 Dx tN tN i (by rw[hll];exact hi);rw[dJ] at g1 g2;exact⟨g1,g2⟩
 ·have g3:=Ua hv h3 (g:=7) (t:=296) tN tN underlying296 Dx tN tN i (by rw[hla];exact hi);rw[dJ] at g3;exact g3
theorem Qkj {laid:List (String×Ad Unit)}{W:A5}(hL:laidMetH prog laid W)
  (hm : (("overspill/cbpy.rows", Rows.laid_overspill_cbpy_rows) ∈ laid ∧ (("overspill/mvd.codes", Rows.laid_overspill_mvd_codes) ∈ laid ∧ ("overspill/mvd.lengths", Rows.laid_overspill_mvd_lengths) ∈ laid) ∧ ("overspill/steps.codes", Rows.laid_overspill_steps_codes) ∈ laid ∧
   (("overspill/tcoef.codes", Rows.laid_overspill_tcoef_codes) ∈ laid ∧ ("overspill/tcoef.lengths", Rows.laid_overspill_tcoef_lengths) ∈ laid ∧ ("overspill/tcoef.ahead", Rows.laid_overspill_tcoef_ahead) ∈ laid)) ∧ (laid.all fun x => x.2.handleName?.isNone) = true) : Ybt W.heap.size W :=
 Ybt.here (gX hL ⟨hm.1.1,hm.2⟩) (Qll hL ⟨hm.1.2.1,hm.2⟩) (lO hL ⟨hm.1.2.2.1,hm.2⟩) (Qc1 hL ⟨hm.1.2.2.2,hm.2⟩)
end
end Go.Proofs.YtjjmalchelniiaaGreatDoor
