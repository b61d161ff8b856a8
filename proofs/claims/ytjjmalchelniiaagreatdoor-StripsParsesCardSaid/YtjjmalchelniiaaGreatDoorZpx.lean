/- No condition. -/
import Derived.Test.YtjjmalchelniiaaGreatDoorZpa
import Derived.Test.YtjjmalchelniiaaGreatDoorZpb
import Derived.Test.YtjjmalchelniiaaGreatDoorZpe
import Derived.Test.YtjjmalchelniiaaGreatDoorZph
import Derived.Test.YtjjmalchelniiaaGreatDoorZpi
import Derived.Test.YtjjmalchelniiaaGreatDoorZpj
open Go.Proofs.Tryz
open Go renaming Value->A0,World->A5,Addr->Aa,Calls->A9
set_option maxHeartbeats 4000000
namespace Go.Proofs.YtjjmalchelniiaaGreatDoor
open Go.RowKit Go.Lib
theorem Wdp{p:Prop}(h:p:=by
 go_wp2
 go_ret
 exact⟨AJ (by rw[f.out,e1];rfl),l.out _ c⟩):p:=h
theorem Wdo{p:Prop}(h:p:=by
 rw[Gl (show ¬ (-32<=v/\v<=31) by omega)] at a
 exact Wdi):p:=h
theorem Wdn{p:Prop}(h:p:=by
 clear hc hr d hg
 exact Wdg):p:=h
theorem Wdm{p:Prop}(h:p:=by
 clear b
 go_enter func87,ntmps87
 go_wp2
 go_ret
 exact⟨AJ xG,rfl⟩):p:=h
theorem Wdl{p:Prop}(h:p:=by
 go_wp2
 go_ret
 exact⟨AJ (by rw[f.out,e1];cases aa <;> rfl),l.out _ c⟩):p:=h
theorem Wdk{p:Prop}(h:p:=by
 go_wp2
 go_ret
 exact⟨AJ (by rw[f.out];rfl),l.out _ c⟩):p:=h
theorem Wdj{p:Prop}(h:p:=by
 rw[t0] at d
 go_enter func120,ntmps120
 go_wp2_with (with_reducible refine(c _).mono ?_;rintro e g ⟨rfl,rfl⟩)
 go_ret
 exact⟨AJ (by rw[d.out];rfl),rfl⟩):p:=h
theorem Wdi{p:Prop}(h:p:=by
 go_enter func121,ntmps121
 go_wp2
 go_ret
 exact⟨AJ xG,rfl⟩):p:=h
theorem Wdh{p:Prop}(h:p:=by
 go_enter func100,ntmps100
 go_wp2
 refine Hb (Hc rfl _ _ w.heap.size 73 _ (0,0) _ rfl (RP w _) Gr rfl uN) rfl ?_;exact⟨rfl,(Ea _ w).alloc (B9 _) _⟩):p:=h
theorem Wdg{p:Prop}(h:p:=by
 go_enter func168,Lm
 go_wp2
 go_region
 go_wp2
 refine Hb (Hc rfl _ _ w.heap.size 191 _ (0,0) _ rfl (PZ w _ _ _ _) Li rfl uN) rfl ?_;exact⟨xE,(i.out _ _ _ _).drew⟩):p:=h
theorem Wdf{p:Prop}(h:p:=by
 have aw:=()
 go_enter func69,ntmps69
 go_wp2_with fail
 rw[af.out,aj.out]
 go_wp2_with fail
 refine(ae.out wA ab).mono ?_;rintro e z ⟨rfl,m⟩;obtain⟨N,C⟩:=Aj z.heap.size;have am:B+1<=N:=xH;have ac:=(m.block B sX).trans ai;have ad:Below B w z:=ab.trans (m.mono sX);clear m ai av ab;unfold BK;obtain⟨j,d⟩:=Aj (((z.alloc (.cells (BK g i) 73 (0,0))).alloc (.cells (BK g i) 73 (0,0))).alloc (.cells (BK g i) 73 (0,0)));have O:Below B w j:=xA;have J:j.heap[B]? =some zerO:=xP;have Q:j.heap[N]? =some (.cells (BK g i) 73 (0,0)):=xF;have D:j.heap[N+1]? =some (.cells (BK g i) 73 (0,0)):=xC;have E:j.heap[N+1+1]? =some (.cells (BK g i) 73 (0,0)):=xD;have gz:j.heap.size=N+3:=by rw[<-d,<-C];simp
 have an:=Fx C;have I:=Fx d;unfold BK at I;clear d C ac ad af ae;unfold zerO at J
 go_wp2_with fail
 rw[I.out,an.out];have F:=Fx (fun(x:A5) (b:Below j.heap.size j x)=>(⟨HV ((b.block N sX).trans Q),HV ((b.block (N+1) sX).trans D),HV ((b.block (N+1+1) sX).trans E)⟩:(x.cell? ⟨N,0,none⟩=some (.int .i64 g)/\x.cell? ⟨N,1,none⟩=some (.int .i64 i))/\(x.cell? ⟨N+1,0,none⟩=some (.int .i64 g)/\x.cell? ⟨N+1,1,none⟩=some (.int .i64 i))/\(x.cell? ⟨N+1+1,0,none⟩=some (.int .i64 g)/\x.cell? ⟨N+1+1,1,none⟩=some (.int .i64 i))));obtain⟨r,s⟩:=Aj (GF g g g);obtain⟨o,t⟩:=Aj (GF i i i);have ao:=Fx (fun(x:A5) (b:Below j.heap.size j x)=>(Qd g g g x).mono fun e y h=>(⟨h.1.trans (by rw[s]),h.2▸b⟩:e=.returned (.int .i64 r)/\Below j.heap.size j y));have ap:=Fx (fun(x:A5) (b:Below j.heap.size j x)=>(Qd i i i x).mono fun e y h=>(⟨h.1.trans (by rw[t]),h.2▸b⟩:e=.returned (.int .i64 o)/\Below j.heap.size j y));have X:=Fx (show M=(r,o) by rw[Y.out,T.out,V.out,<-s,<-t]);clear s t Y T V;refine E1 (S:=fun x=>Below j.heap.size j x) 15 uN uN (Ea _ _).drew ?_;simp only[Gn,Bk,Gp,Gq];refine AQ ?_;simp only[A1];refine B4 3 _ ⟨(N),0,none⟩ (.int .i64 g) uN rfl rfl (fun x b=>xO) ?_;simp only[A1];refine AQ ?_;simp only[A1];refine B4 3 _ ⟨(N+1),0,none⟩ (.int .i64 g) uN rfl rfl (fun x b=>xM) ?_;simp only[A1];refine AQ ?_;simp only[A1];refine B4 3 _ ⟨(N+1+1),0,none⟩ (.int .i64 g) uN rfl rfl (fun x b=>xK) ?_;simp only[A1];refine C2 uN ao.out (fun _=>uN) ?_;simp only[A1];refine AQ ?_;simp only[A1];refine B4 3 _ ⟨(N),1,none⟩ (.int .i64 i) uN rfl rfl (fun x b=>xN) ?_;simp only[A1];refine AQ ?_;simp only[A1];refine B4 3 _ ⟨(N+1),1,none⟩ (.int .i64 i) uN rfl rfl (fun x b=>xL) ?_;simp only[A1];refine AQ ?_;simp only[A1];refine B4 3 _ ⟨(N+1+1),1,none⟩ (.int .i64 i) uN rfl rfl (fun x b=>xJ) ?_;simp only[A1];refine C2 uN ap.out (fun _=>uN) ?_;simp only[A1];refine AQ ?_;simp only[A1];refine DX fun x b=>?_;have k0:x.heap[B]? =some (.cells #[.int .i64 0,.int .i64 0] 73 (0,0)):=(b.block B sX).trans J;have D:(prog.info? 73).map (·.size)=some (#[.int .i64 r,.int .i64 o]:Array A0).size:=PG;have E:(#[.int .i64 0,.int .i64 0]:Array A0).size=(#[.int .i64 r,.int .i64 o]:Array A0).size:=rfl;have g3:(#[.int .i64 r,.int .i64 o]:Array A0).all (·.oneCell')=true:=P6 r o
 go_wp2_with (with_reducible refine AK rfl 73 _ _ rfl B #[.int .i64 r,.int .i64 o] #[.int .i64 0,.int .i64 0] rfl rfl 73 k0 D E g3 ?_;intro w3 u l)
 refine Hb (Hc rfl _ _ B 73 _ (0,0) _ rfl u Gr rfl uN) rfl ?_;exact⟨by rw[X.out];rfl,wZ⟩):p:=h
theorem wZ{p:Prop}(h:p:=by rw[aj.out];exact(O.trans (b.mono (by omega))).grown l (by have:=b.size;omega) (fun k hk=>by injection hk with hk;omega)):p:=h
theorem xA{p:Prop}(h:p:=by rw[<-d];exact((ad.alloc (by omega) _).alloc (by simp;omega) _).alloc (by simp;omega) _):p:=h
theorem xB{p:Prop}(h:p:=by intro hk;injection hk with hk;omega):p:=h
theorem xC{p:Prop}(h:p:=by rw[<-d,<-C];exact BM (by simpa using heap_alloc_new (z.alloc _) _)):p:=h
theorem xD{p:Prop}(h:p:=by rw[<-d,<-C];simpa using heap_alloc_new ((z.alloc _).alloc _) _):p:=h
theorem xE{p:Prop}(h:p:=by rw[m.out,g.out,t.out];rfl):p:=h
theorem xF{p:Prop}(h:p:=by rw[<-d,<-C];exact BM (BM (heap_alloc_new z _))):p:=h
theorem xG{p:Prop}(h:p:=by rw[a.out];rfl):p:=h
theorem xH{p:Prop}(h:p:=by have:=m.size;omega):p:=h
theorem xI{p:Prop}(h:p:=by injection hk with hk;omega):p:=h
theorem xJ{p:Prop}(h:p:=by have c0:=(F.out x b).2.2.2;go_simp):p:=h
theorem xK{p:Prop}(h:p:=by have c0:=(F.out x b).2.2.1;go_simp):p:=h
theorem xL{p:Prop}(h:p:=by have c0:=(F.out x b).2.1.2;go_simp):p:=h
theorem xM{p:Prop}(h:p:=by have c0:=(F.out x b).2.1.1;go_simp):p:=h
theorem xN{p:Prop}(h:p:=by have c0:=(F.out x b).1.2;go_simp):p:=h
theorem xO{p:Prop}(h:p:=by have c0:=(F.out x b).1.1;go_simp):p:=h
theorem xP{p:Prop}(h:p:=by rw[<-d];exact BM (BM (BM ac))):p:=h
theorem xQ{p:Prop}(h:p:=by rw[g.out];rfl):p:=h
abbrev Le:=@Int.tdiv_eq_ediv_of_nonneg
abbrev Lg:=@Int.toNat_natCast
abbrev Lh:=@Int.tmod_eq_emod_of_nonneg
abbrev Li:=@underlying191
abbrev Lj:=@Int.mul_nonneg
abbrev Lk:=@Int.natCast_mul
abbrev Ll:=@run_underlying
abbrev Lm:=@ntmps168
theorem Aj{α}(a:α):∃b,a=b:=⟨a,rfl⟩
def FY (f:Nat->Int×Int)(n a:Nat):Int×Int:=if 0<n%a then f (n-1) else (0,0)
def upV (n a:Nat)(first:Int):Bool:=decide (0<n / a)&&decide (first<((n / a:Nat):Int))
def IZ (f:Nat->Int×Int)(n a:Nat)(first:Int):Int×Int:=if upV n a first then f (n-a) else FY f n a
def JA (f:Nat->Int×Int)(n a:Nat)(first:Int):Int×Int:=if upV n a first then (if n%a<a-1 then f (n-a+1) else (0,0)) else FY f n a
def KR (f:Nat->Int×Int)(n:Nat)(a first:Int):Int×Int:=
 if a<1 then (0,0)
 else (GF (FY f n a.toNat).1 (IZ f n a.toNat first).1 (JA f n a.toNat first).1,GF (FY f n a.toNat).2 (IZ f n a.toNat first).2 (JA f n a.toNat first).2)
def IL (x y z:Int×Int):Array A0:=#[.int .i64 x.1,.int .i64 x.2,.int .i64 y.1,.int .i64 y.2,.int .i64 z.1,.int .i64 z.2]
theorem Q4 {n A:Nat}(h:1<=A):(n:Int).tmod (A:Int)=((n%A:Nat):Int)/\(n:Int).tdiv (A:Int)=((n / A:Nat):Int)/\n%A<A/\(0<n%A->1<=n)/\(0<n / A->A<=n)/\n / A<=n:=by
 refine⟨by rw[Lh (by omega)];rfl,by rw[Le (by omega)];rfl,Nat.mod_lt _ h,fun h1=>?_,fun h1=>?_,Nat.div_le_self _ _⟩
 ·rcases Hd n with rfl|h2
  ·simp at h1
  ·exact h2
 ·rcases Au n A with h2|h2
  ·rw[Cx h2] at h1;omega
  ·exact h2
def HX:Obj:=.cells #[.int .i64 0,.int .i64 0,.int .i64 0,.int .i64 0,.int .i64 0,.int .i64 0] 191 (0,0)
def zerO:Obj:=.cells #[.int .i64 0,.int .i64 0] 73 (0,0)
theorem qK (w:A5)(a b c d:Obj):Below w.heap.size w ((((w.alloc a).alloc b).alloc c).alloc d):=
 ((((Ea _ w).alloc (B9 _) _).alloc sV _).alloc sU _).alloc sU _
theorem PZ (w:A5)(a b c d:Obj):((((w.alloc a).alloc b).alloc c).alloc d).drew.heap[w.heap.size]? =some a:=
 BM (BM (BM (heap_alloc_new w a)))
theorem nQ (f:Nat->Int×Int)(p:Option Aa)(n cap A:Nat)(first:Int)(w:A5)(D:JF w p n f)(hn:n<=maxLen)(h1:1<=A)(W:A<=9223372036854775807):
  A9 prog 168 #[.slice p n cap,.int .i64 (A:Int),.int .i64 first] w fun e H=>e=.returned (.agg (IL (FY f n A) (IZ f n A first) (JA f n A first)))/\Below w.heap.size w H:=by
 unfold maxLen at hn;obtain⟨I,J,u,x,E,v⟩:=Q4 (n:=n) h1;have X:((A:Int)==0)=false:=sU;have e1:(n:Int)%(A:Int)=((n%A:Nat):Int):=rfl;have e2:(n:Int) / (A:Int)=((n / A:Nat):Int):=rfl;have K:IntKind.i64.wrap ((n / A:Nat):Int)=((n / A:Nat):Int):=OG sX;have t:=Fx (show FY f n A=if 0<n%A then f (n-1) else (0,0) from rfl);have m:=Fx (show IZ f n A first=if upV n A first then f (n-A) else FY f n A from rfl);have g:=Fx (show JA f n A first=if upV n A first then (if n%A<A-1 then f (n-A+1) else (0,0)) else FY f n A from rfl);have a:upV n A first=(decide (0<n / A)&&decide (first<((n / A:Nat):Int))):=rfl
 obtain⟨mx,y⟩:=Aj (if first<0 then 0 else first);have F:0<=mx/\first<=mx/\(mx=0\/mx=first):=by rw[<-y];split <;> omega
 have d:=Zg D;clear D;generalize FY f n A=L at *;generalize IZ f n A first=U at *
 generalize JA f n A first=R at *
 generalize upV n A first=G at *
 generalize n%A=c at *;generalize n / A=q at *;have i:=Fx (fun M N O P=>qK w M N O P);clear I J;have Y:=Fx K;by_cases hc:0<c
 ·have t0:decide (0<c)=true:=Gm sX;have Z:=x hc;obtain⟨k,hk⟩:=Aj (n-1);have z:k<n:=sX;have nk:(n:Int)-1=(k:Int):=sX;rw[Bb hc,hk] at t;obtain⟨b,o,rfl,hr⟩:=d sX;obtain⟨c0,c1⟩:=hr _ (i.out HX zerO zerO zerO).drew k z;unfold HX zerO at c0 c1;clear x;by_cases l:G=true
  rotate_left
  ·rw[Ba l] at m g;have t1:decide ((q:Int)<=mx)=true:=Gm (by
    rcases Hd q with h|h
    ·omega
    ·have Q:¬ first<(q:Int):=fun h2=>l (by rw[a,Gm h,Gm h2];rfl)
     omega)
   clear u v a;clear hc hr d l
   exact Wdg
  ·rw[Bb l] at m g;rw[a,Al,G3,G3] at l;obtain⟨B,S⟩:=l;have T:=E B;have t1:decide ((q:Int)<=mx)=false:=Gl sX;obtain⟨j,hj⟩:=Aj (n-A);have r:j<n:=sX;have V:(n:Int)-(A:Int)=(j:Int):=sX;rw[hj] at m g;by_cases hg:c<A-1
   ·rw[Bb hg] at g;have t2:decide ((c:Int)<(A:Int)-1)=true:=Gm sX;have s:j+1<n:=sX;clear u v a;obtain⟨c2,c3⟩:=hr _ (i.out HX (.cells #[.int .i64 (f k).1,.int .i64 (f k).2] 73 (0,0)) zerO zerO).drew j r;unfold HX zerO at c2 c3;obtain⟨C,c5⟩:=hr _ (i.out HX (.cells #[.int .i64 (f k).1,.int .i64 (f k).2] 73 (0,0)) (.cells #[.int .i64 (f j).1,.int .i64 (f j).2] 73 (0,0)) zerO).drew (j+1) s;unfold HX zerO at C c5;exact Wdn
   ·rw[Ba hg] at g;have t2:decide ((c:Int)<(A:Int)-1)=false:=Gl sX;clear u v a;obtain⟨c2,c3⟩:=hr _ (i.out HX (.cells #[.int .i64 (f k).1,.int .i64 (f k).2] 73 (0,0)) zerO zerO).drew j r;unfold HX zerO at c2 c3;exact Wdn
 ·have t0:decide (0<c)=false:=Gl sX;rw[Ba hc] at t;clear x;by_cases l:G=true
  rotate_left
  ·rw[Ba l] at m g;have t1:decide ((q:Int)<=mx)=true:=Gm (by
    rcases Hd q with h|h
    ·omega
    ·have Q:¬ first<(q:Int):=fun h2=>l (by rw[a,Gm h,Gm h2];rfl)
     omega)
   clear u v a;clear hc d l
   exact Wdg
  ·rw[Bb l] at m g;rw[a,Al,G3,G3] at l;obtain⟨B,S⟩:=l;have T:=E B;have t1:decide ((q:Int)<=mx)=false:=Gl sX;obtain⟨j,hj⟩:=Aj (n-A);have r:j<n:=sX;have V:(n:Int)-(A:Int)=(j:Int):=sX;rw[hj] at m g;obtain⟨b,o,rfl,hr⟩:=d sX;by_cases hg:c<A-1
   ·rw[Bb hg] at g;have t2:decide ((c:Int)<(A:Int)-1)=true:=Gm sX;have s:j+1<n:=sX;clear u v a;obtain⟨c2,c3⟩:=hr _ (i.out HX zerO zerO zerO).drew j r;unfold HX zerO at c2 c3;obtain⟨C,c5⟩:=hr _ (i.out HX zerO (.cells #[.int .i64 (f j).1,.int .i64 (f j).2] 73 (0,0)) zerO).drew (j+1) s;unfold HX zerO at C c5;exact Wdn
   ·rw[Ba hg] at g;have t2:decide ((c:Int)<(A:Int)-1)=false:=Gl sX;clear u v a;obtain⟨c2,c3⟩:=hr _ (i.out HX zerO zerO zerO).drew j r;unfold HX zerO at c2 c3;exact Wdn
def LS (x:Int×Int)(w:A5)(e:Ending)(a:A5):Prop:=e=.returned (.agg (BK x.1 x.2))/\Below w.heap.size w a
theorem T7 {w:A5}{N:Nat}{x y z:Int×Int}(h:w.heap[N]? =some (.cells (IL x y z) 191 (0,0))):
  (w.cell? ⟨N,0,none⟩=some (.int .i64 x.1)/\w.cell? ⟨N,2,none⟩=some (.int .i64 y.1)/\w.cell? ⟨N,4,none⟩=some (.int .i64 z.1))/\w.cell? ⟨N,1,none⟩=some (.int .i64 x.2)/\w.cell? ⟨N,3,none⟩=some (.int .i64 y.2)/\w.cell? ⟨N,5,none⟩=some (.int .i64 z.2):=by
 have k:=fun(o:Nat) (v:A0) (hv:[Value.int .i64 x.1,.int .i64 x.2,.int .i64 y.1,.int .i64 y.2,.int .i64 z.1,.int .i64 z.2][o]? =some v)=>AA (o:=o) (cs:=[.int .i64 x.1,.int .i64 x.2,.int .i64 y.1,.int .i64 y.2,.int .i64 z.1,.int .i64 z.2]) h hv;exact⟨⟨k 0 _ rfl,k 2 _ rfl,k 4 _ rfl⟩,k 1 _ rfl,k 3 _ rfl,k 5 _ rfl⟩
theorem WN (w:A5)(a b:Obj):((w.alloc a).alloc b).heap[w.heap.size]? =some a:=BM (heap_alloc_new w a)
theorem ZF (f:Nat->Int×Int)(p:Option Aa)(n cap:Nat)(d first:Int)(w:A5)(Z:JF w p n f)(hn:n<=maxLen)(hA:d<=9223372036854775807):
  A9 prog 140 #[.slice p n cap,.int .i64 d,.int .i64 first] w (LS (KR f n d first) w):=by
 have s:=Fx (show KR f n d first=if d<1 then (0,0) else (GF (FY f n d.toNat).1 (IZ f n d.toNat first).1 (JA f n d.toNat first).1,GF (FY f n d.toNat).2 (IZ f n d.toNat first).2 (JA f n d.toNat first).2) from rfl);generalize KR f n d first=M at *
 by_cases h1:d<1
 ·have t0:decide (d<1)=true:=Gm h1;rw[Bb h1] at s;clear Z hn hA h1
  go_enter func140,ntmps140
  go_wp2
  refine Hb (Hc rfl _ _ w.heap.size 73 _ (0,0) _ rfl (WN w _ _) Gr rfl uN) rfl ?_;exact⟨by rw[s.out];rfl,((Ea _ w).alloc (B9 _) _).alloc sV _⟩
 ·have t0:decide (d<1)=false:=Gl h1;rw[Ba h1] at s;obtain⟨A,rfl⟩:∃A:Nat,d=(A:Int):=⟨d.toNat,sX⟩;rw[Lg] at s;have c:=fun x (g:Below w.heap.size w x)=>nQ f p n cap A first x (Z.mono g) hn sX sX
  have O:Below w.heap.size w ((w.alloc zerO).alloc zerO):=((Ea _ w).alloc (B9 _) _).alloc sV _;generalize FY f n A=L at *;generalize IZ f n A first=U at *
  generalize JA f n A first=R at *
  have Q:=WN w zerO zerO;have T:((w.alloc zerO).alloc zerO).heap[w.heap.size+1]? =some zerO:=by simpa using heap_alloc_new (w.alloc zerO) zerO
  have aa:((w.alloc zerO).alloc zerO).heap.size=w.heap.size+2:=sV;obtain⟨wA,q⟩:=Aj ((w.alloc zerO).alloc zerO);have ag:=Fx (c wA (q▸O));rw[q] at Q T aa O;obtain⟨B,hB⟩:=Aj w.heap.size;rw[hB] at Q T aa O;have ab:=Fx q;have ah:=Fx hB;unfold zerO at ab;clear c Z hn h1 hA hB q
  go_enter func140,ntmps140
  go_wp2_with fail
  rw[ab.out,ah.out]
  go_wp2_with (with_reducible refine ag.out.mono ?_;rintro e t ⟨rfl,m⟩;obtain⟨N,V⟩:=Aj t.heap.size;have am:B+2<=N:=xH;have W:=(m.block B sX).trans Q;have X:=(m.block (B+1) sX).trans T;have ai:Below B w t:=O.trans (m.mono sX);clear m Q T aa O;have ac:=Fx V;unfold IL)
  have ad:=heap_alloc_new t (.cells (IL L U R) 191 (0,0));rw[V] at ad;have aj:Below B w (t.alloc (.cells (IL L U R) 191 (0,0))):=ai.alloc sX _;have an:(t.alloc (.cells (IL L U R) 191 (0,0))).heap.size=N+1:=by simp[V]
  replace W:=BM (ob:=.cells (IL L U R) 191 (0,0)) W
  replace X:=BM (ob:=.cells (IL L U R) 191 (0,0)) X
  change Code.wp _ _ _ _ (t.alloc (.cells (IL L U R) 191 (0,0)));generalize t.alloc (.cells (IL L U R) 191 (0,0))=w2 at *;clear V ac ai;obtain⟨G,H⟩:=L;obtain⟨I,J⟩:=U;obtain⟨K,r1⟩:=R;obtain⟨i,u⟩:=Aj (GF G I K);obtain⟨l,v⟩:=Aj (GF H J r1);have ak:=Fx (fun w=>WQ G I K w);have al:=Fx (fun w=>WQ H J r1 w);rw[u] at ak;rw[v] at al
  replace s:=Fx (show M=(i,l) by rw[s.out,<-u,<-v])
  clear u v ag ab
  go_loopw [17] (fun z wr=>∃j:Nat,j<=2/\z=.int .i64 j/\wr.heap[B]? =some zerO/\wr.heap[B+1]? =some (.cells (BK (if 0<j then i else 0) (if 1<j then l else 0)) 73 (0,0))/\wr.heap[N]? =some (.cells (IL (G,H) (I,J) (K,r1)) 191 (0,0))/\Below B w wr/\N+1<=wr.heap.size) (fun z _=>2-(intOf z).toNat)
  case atStart=>exact⟨0,sX,rfl,W,X,ad,aj,sX⟩
  case round=>
   clear W X ad aj an;obtain⟨j,hj,rfl,Y,k1,P,kb,kz⟩:=hrel;obtain⟨⟨x0,x1,x2⟩,x3,x4,x5⟩:=T7 P;have D:j=0\/j=1\/j=2:=sX;rcases D with rfl|rfl|rfl
   ·go_wp2
    have C:=Fx (fun(x:A5) (g:Below wr.heap.size wr x)=>(ak.out x).mono fun e y h=>(⟨h.1,h.2▸g⟩:e=.returned (.int .i64 i)/\Below wr.heap.size wr y));have E:=Fx (fun(x:A5) (g:Below wr.heap.size wr x)=>T7 ((g.block N sX).trans P));refine E1 (S:=fun x=>Below wr.heap.size wr x) 15 uN uN (Ea _ _).drew ?_;simp only[Gn,Bk,Gp,Gq]
    iterate 4 (refine AQ ?_;simp only[A1])
    refine B4 3 _ ⟨(N),0,none⟩ (.int .i64 G) uN rfl rfl (fun x g=>by have c0:=(E.out x g).1.1;go_simp) ?_;simp only[A1]
    iterate 3 (refine AQ ?_;simp only[A1])
    refine B4 3 _ ⟨(N),2,none⟩ (.int .i64 I) uN rfl rfl (fun x g=>by have c0:=(E.out x g).1.2.1;go_simp) ?_;simp only[A1]
    iterate 3 (refine AQ ?_;simp only[A1])
    refine B4 3 _ ⟨(N),4,none⟩ (.int .i64 K) uN rfl rfl (fun x g=>by have c0:=(E.out x g).1.2.2;go_simp) ?_;simp only[A1];refine C2 uN C.out (fun _=>uN) ?_;simp only[A1];refine AQ ?_;simp only[A1];refine DX fun x g=>?_;have r:x.heap[B+1]? =some (.cells (BK 0 0) 73 (0,0)):=(g.block (B+1) sX).trans k1;have y0:=(HV r).1;have ff:x.frozen? ⟨B+1,0,none⟩=false:=AL (cs:=[.int .i64 0,.int .i64 0]) r;have F:=Fx (⟨Q8 ((g.block B sX).trans Y) sV,B3 (o:=0) (cs:=[.int .i64 0,.int .i64 0]) (.int .i64 i) r,Q8 ((g.block N sX).trans P) sU,(kb.trans (g.mono sX)).setCell sV _,by simp[World.setCell];have:=g.size;omega⟩:(x.setCell ⟨B+1,0,none⟩ (.int .i64 i)).heap[B]? =some zerO/\(x.setCell ⟨B+1,0,none⟩ (.int .i64 i)).heap[B+1]? =some (.cells (BK i 0) 73 (0,0))/\(x.setCell ⟨B+1,0,none⟩ (.int .i64 i)).heap[N]? =some (.cells (IL (G,H) (I,J) (K,r1)) 191 (0,0))/\Below B w (x.setCell ⟨B+1,0,none⟩ (.int .i64 i))/\N+1<=(x.setCell ⟨B+1,0,none⟩ (.int .i64 i)).heap.size);clear r
    go_wp2
    go_roundw
    case rel=>exact⟨1,sX,rfl,F.out⟩
    case measure=>simp[intOf]
   ·go_wp2
    have C:=Fx (fun(x:A5) (g:Below wr.heap.size wr x)=>(al.out x).mono fun e y h=>(⟨h.1,h.2▸g⟩:e=.returned (.int .i64 l)/\Below wr.heap.size wr y));have E:=Fx (fun(x:A5) (g:Below wr.heap.size wr x)=>T7 ((g.block N sX).trans P));refine E1 (S:=fun x=>Below wr.heap.size wr x) 15 uN uN (Ea _ _).drew ?_;simp only[Gn,Bk,Gp,Gq]
    iterate 4 (refine AQ ?_;simp only[A1])
    refine B4 3 _ ⟨(N),1,none⟩ (.int .i64 H) uN rfl rfl (fun x g=>by have c0:=(E.out x g).2.1;go_simp) ?_;simp only[A1]
    iterate 3 (refine AQ ?_;simp only[A1])
    refine B4 3 _ ⟨(N),3,none⟩ (.int .i64 J) uN rfl rfl (fun x g=>by have c0:=(E.out x g).2.2.1;go_simp) ?_;simp only[A1]
    iterate 3 (refine AQ ?_;simp only[A1])
    refine B4 3 _ ⟨(N),5,none⟩ (.int .i64 r1) uN rfl rfl (fun x g=>by have c0:=(E.out x g).2.2.2;go_simp) ?_;simp only[A1];refine C2 uN C.out (fun _=>uN) ?_;simp only[A1];refine AQ ?_;simp only[A1];refine DX fun x g=>?_;have r:x.heap[B+1]? =some (.cells (BK i 0) 73 (0,0)):=(g.block (B+1) sX).trans k1;have y1:=(HV r).2;have ff:x.frozen? ⟨B+1,1,none⟩=false:=AL (cs:=[.int .i64 i,.int .i64 0]) r;have F:=Fx (⟨Q8 ((g.block B sX).trans Y) sV,B3 (o:=1) (cs:=[.int .i64 i,.int .i64 0]) (.int .i64 l) r,Q8 ((g.block N sX).trans P) sU,(kb.trans (g.mono sX)).setCell sV _,by simp[World.setCell];have:=g.size;omega⟩:(x.setCell ⟨B+1,1,none⟩ (.int .i64 l)).heap[B]? =some zerO/\(x.setCell ⟨B+1,1,none⟩ (.int .i64 l)).heap[B+1]? =some (.cells (BK i l) 73 (0,0))/\(x.setCell ⟨B+1,1,none⟩ (.int .i64 l)).heap[N]? =some (.cells (IL (G,H) (I,J) (K,r1)) 191 (0,0))/\Below B w (x.setCell ⟨B+1,1,none⟩ (.int .i64 l))/\N+1<=(x.setCell ⟨B+1,1,none⟩ (.int .i64 l)).heap.size);clear r
    go_wp2
    go_roundw
    case rel=>exact⟨2,sX,rfl,F.out⟩
    case measure=>simp[intOf]
   ·obtain⟨y0,y1⟩:=HV (a:=i) (b:=l) k1;unfold zerO at Y;have g1:(prog.info? 73).map (·.size)=some (#[.int .i64 i,.int .i64 l]:Array A0).size:=PG;have g2:(#[.int .i64 0,.int .i64 0]:Array A0).size=(#[.int .i64 i,.int .i64 l]:Array A0).size:=rfl;have g3:(#[.int .i64 i,.int .i64 l]:Array A0).all (·.oneCell')=true:=P6 i l
    go_wp2_with (with_reducible refine AK rfl 73 _ _ rfl B #[.int .i64 i,.int .i64 l] #[.int .i64 0,.int .i64 0] rfl rfl 73 Y g1 g2 g3 ?_;intro w3 ae af)
    refine Hb (Hc rfl _ _ B 73 _ (0,0) _ rfl ae Gr rfl uN) rfl ?_;exact⟨by rw[s.out];rfl,by rw[ah.out];exact kb.grown af (by omega) (fun k hk=>by injection hk with hk;omega)⟩
theorem Qc (a b c d:Int)(w:A5):(Instr.index 81 (.agg #[.int .i64 a,.int .i64 b,.int .i64 c,.int .i64 d]) (.int .i64 0)).run prog w=.ok (.int .i64 a) w/\
  (Instr.index 81 (.agg #[.int .i64 a,.int .i64 b,.int .i64 c,.int .i64 d]) (.int .i64 1)).run prog w=.ok (.int .i64 b) w:=by
 obtain⟨j,hj⟩:=VE;have e:(0:Int)<=0/\(0:Int)<((4:Nat):Int):=sX;have h1:(0:Int)<=1/\(1:Int)<((4:Nat):Int):=sX;constructor
 ·simp only[Instr.index,asIntOf,As,Aw,Ap,Ll He,Bb e,run_sizeOf w hj,RA,H5];exact Gu w NB rfl
 ·simp only[Instr.index,asIntOf,As,Aw,Ap,Ll He,Bb h1,run_sizeOf w hj,RA,H5];exact Gu w NB rfl
theorem Xp (k:Int):(DF k).tdiv 16=(acr k:Int)/\(DP k).tdiv 16=(dow k:Int)/\(DF k).tdiv 2=((8*acr k:Nat):Int)/\(DP k).tdiv 2=((8*dow k:Nat):Int):=by
 obtain⟨_,_,h3,h4,_⟩:=HY k;rw[h3,h4,Le sX,Le sX,Le sX,Le sX];omega
set_option maxRecDepth 100000 in
theorem Yl (k:Int)(w:A5):A9 prog 85 #[.int .i64 k] w fun e g=>e=.returned (.int .i64 (D1 k:Int))/\Below w.heap.size w g:=by
 have c:=fun w=>SG k w;obtain⟨d1,d2,-⟩:=Xp k;obtain⟨-,-,-,-,h,i⟩:=HY k;have hs:(acr k:Int)*(dow k:Int)=(D1 k:Int):=(Lk _ _).symm;have n:IntKind.i64.wrap (D1 k:Int)=(D1 k:Int):=CE (by have:=Xt k;omega);have o:IntKind.i64.wrap (acr k:Int)=(acr k:Int):=CE sX;have p:IntKind.i64.wrap (dow k:Int)=(dow k:Int):=CE sX;have j:=fun w=>(Qc (DF k) (DP k) (BE k) (BQ k) w).1;have l:=fun w=>(Qc (DF k) (DP k) (BE k) (BQ k) w).2;unfold NH at c;clear h i;generalize acr k=a at *;generalize dow k=b at *;generalize D1 k=m at *;generalize DF k=W at *;generalize DP k=H at *;generalize BE k=R at *;generalize BQ k=L at *
 go_enter func85,ntmps85
 go_wp2_with fail
 refine(c _).mono ?_;rintro e x1 ⟨rfl,d⟩
 go_wp2_with fail
 refine(c _).mono ?_;rintro e x2 ⟨rfl,f⟩
 go_wp2
 go_ret
 exact⟨rfl,d.trans (f.mono d.size)⟩
theorem mJ (k:Int):((D1 k:Int)==0) = !DS k:=by
 cases h:DS k with
 |false=>rw[Qag h];rfl
 |true=>
  have h1:=Qjj h;have h2:0<D1 k:=Nat.mul_pos h1.1 h1.2;show ((D1 k:Int)==0)=false;rw[Fz];omega
set_option maxRecDepth 100000 in
theorem XC (k:Int)(w:A5):A9 prog 65 #[.int .i64 k] w fun e d=>e=.returned (.int .i64 (acr k:Int))/\Below w.heap.size w d:=by
 have c:=fun w=>SG k w;obtain⟨d1,-⟩:=Xp k;obtain⟨-,-,-,-,f,g⟩:=HY k;have j:IntKind.i64.wrap (acr k:Int)=(acr k:Int):=CE sX;have h:=fun w=>(Qc (DF k) (DP k) (BE k) (BQ k) w).1;have i:=fun w=>(Qc (DF k) (DP k) (BE k) (BQ k) w).2;unfold NH at c;clear f g;generalize acr k=a at *;generalize DF k=W at *;generalize DP k=H at *;generalize BE k=R at *;generalize BQ k=L at *
 go_enter func65,ntmps65
 go_wp2_with fail
 refine(c _).mono ?_;rintro e x1 ⟨rfl,b⟩
 go_wp2
 go_ret
 exact⟨rfl,b⟩
theorem lF (k n:Int)(w:A5):A9 prog 120 #[.int .i64 k,.int .i64 n] w fun e f=>e=.returned (.bool (LB k n))/\w=f:=by
 have c:=fun w=>QO k w;obtain⟨h1,h2,_⟩:=HY k;rw[<-h1,<-h2] at c;have hs:(acr k:Int)*(dow k:Int)=(D1 k:Int):=(Lk _ _).symm;have h:IntKind.i64.wrap (D1 k:Int)=(D1 k:Int):=CE (by have:=Xt k;omega);have d:=Fx (show LB k n=(decide (0<=n)&&decide (n<(D1 k:Int))) from rfl);generalize LB k n=y at *;clear h1 h2;generalize acr k=a at *;generalize dow k=b at *;generalize D1 k=m at *;cases t0:decide (0<=n)
 ·exact Wdj
 ·exact Wdj
theorem eB (c m:Nat)(v:Int)(w:A5)(hc:c<=1000)(hm:m<=1000):A9 prog 121 #[.int .i64 (c:Int),.int .i64 (m:Int),.int .i64 v] w fun e b=>e=.returned (.bool (EP c m v))/\w=b:=by
 have a:=Fx (show EP c m v=(decide (-32<=v/\v<=31)&&decide (0<=32*(c:Int)+v/\32*(c:Int)+v+30<=32*(m:Int)-2)) from rfl);generalize EP c m v=y at *;by_cases h1:v < -32
 ·have t1:decide (v < -32)=true:=Gm h1;exact Wdo
 have t1:decide (v < -32)=false:=Gl h1;by_cases h2:31<v
 ·have t2:decide (31<v)=true:=Gm h2;exact Wdo
 have t2:decide (31<v)=false:=Gl h2;rw[Gm (show -32<=v/\v<=31 by omega)] at a;by_cases h3:0<=32*(c:Int)+v
 ·have t3:decide (0<=32*(c:Int)+v)=true:=Gm h3;have hr:decide (0<=32*(c:Int)+v/\32*(c:Int)+v+30<=32*(m:Int)-2)=decide (32*(c:Int)+v+30<=2*(16*(m:Int)-1)):=by
   by_cases h:32*(c:Int)+v+30<=2*(16*(m:Int)-1)
   ·rw[Gm h,Gm];omega
   ·rw[Gl h,Gl];omega
  rw[hr] at a;clear hr
  exact Wdi
 ·have t3:decide (0<=32*(c:Int)+v)=false:=Gl h3;rw[Gl (show ¬ (0<=32*(c:Int)+v/\32*(c:Int)+v+30<=32*(m:Int)-2) by omega)] at a
  exact Wdi
theorem Zp {k:Int}{n:Nat}(h:n<D1 k):(n:Int).tmod (acr k:Int)=((n%acr k:Nat):Int)/\(n:Int).tdiv (acr k:Int)=((n / acr k:Nat):Int)/\IntKind.i64.wrap ((n / acr k:Nat):Int)=((n / acr k:Nat):Int)/\((acr k:Int)==0)=false/\n%acr k<acr k/\n / acr k<dow k/\acr k<=88/\dow k<=72:=by
 obtain⟨a,h1,h2⟩:=jS h;obtain⟨-,-,-,-,h3,h4⟩:=HY k;refine⟨by rw[Lh (by omega)];rfl,by rw[Le (by omega)];rfl,OG sX,sU,h1,h2,h3,h4⟩
set_option maxRecDepth 100000 in
theorem fV (k n a b:Int)(w:A5):A9 prog 84 #[.int .i64 k,.int .i64 n,.agg (BK a b)] w fun e E=>e=.returned (.bool (H1 k n a b))/\Below w.heap.size w E:=by
 have c1:=fun w=>lF k n w;have c2:=fun w=>QO k w;obtain⟨e1,e2,-⟩:=HY k;rw[<-e1,<-e2] at c2;clear e1 e2;have g:=Fx (show H1 k n a b=(LB k n&&(EP (n.toNat%acr k) (acr k) a&&EP (n.toNat / acr k) (dow k) b)) from rfl);generalize H1 k n a b=y at *;obtain⟨B,l⟩:=Aj w.heap.size;obtain⟨d,f⟩:=Aj (w.alloc (.cells (BK a b) 73 (0,0)));have t:d.heap[B]? =some (.cells (BK a b) 73 (0,0)):=by rw[<-f,<-l];exact heap_alloc_new w _
 have F:d.heap.size=B+1:=by rw[<-f,<-l];simp
 have p:=Fx (fun(x:A5) (c:Below (B+1) d x)=>HV ((c.block B sX).trans t));have z:Below w.heap.size w d:=by rw[<-f];exact(Ea _ w).alloc (B9 _) _
 have r:=Fx (fun(x:A5) (c:Below (B+1) d x)=>(z.trans (c.mono sX):Below w.heap.size w x));unfold BK at *;have i:=Fx f;have C:=Fx l;clear t F z f l;cases hc:LB k n with
 |false=>
  rw[hc] at c1 g;clear hc
  go_enter func84,ntmps84
  go_wp2_with (first|(with_reducible refine(c1 _).mono ?_;rintro e j ⟨rfl,rfl⟩)|(with_reducible refine(c2 _).mono ?_;rintro e j ⟨rfl,rfl⟩))
  go_ret
  exact⟨AJ xQ,by rw[i.out];exact r.out _ (Ea _ _)⟩
 |true=>
  rw[hc] at c1 g;obtain⟨G,s⟩:=UO.1 hc;obtain⟨q,rfl⟩:∃q:Nat,n=(q:Int):=⟨n.toNat,sX⟩;rw[Lg] at g s;obtain⟨r1,r2,r3,I,J,K,L,M⟩:=Zp s;have o:=Fx (fun x (c:Below (B+1) d x)=>(eB (q%acr k) (acr k) a x sX sX).mono fun e y h=>(⟨h.1,h.2▸c⟩:e=.returned (.bool (EP (q%acr k) (acr k) a))/\Below (B+1) d y));have H:=Fx (fun x (c:Below (B+1) d x)=>(eB (q / acr k) (dow k) b x sX sX).mono fun e y h=>(⟨h.1,h.2▸c⟩:e=.returned (.bool (EP (q / acr k) (dow k) b))/\Below (B+1) d y));clear hc s G;generalize q%acr k=u at *;generalize q / acr k=v at *;generalize acr k=A at *;generalize dow k=D at *;cases c:EP u A a with
  |false=>
   rw[c] at o g
   go_enter func84,ntmps84
   go_wp2_with (first|(with_reducible refine(c1 _).mono ?_;rintro e j ⟨rfl,rfl⟩)|(with_reducible refine(c2 _).mono ?_;rintro e j ⟨rfl,rfl⟩))
   rw[i.out,C.out];refine E1 (S:=fun x=>Below (B+1) d x) 17 uN uN (Ea _ _).drew ?_;simp only[Gn,Bk,Gp,Gq];refine B1 (v:=?vp0) uN ?m ?_;(case m=>(intro x _;go_simp;try with_reducible rfl));simp only[A1]
   refine B1 (v:=?vp1) uN ?m ?_;(case m=>(intro x _;go_simp;try with_reducible rfl));simp only[A1];refine B1 (v:=?vp2) uN ?m ?_;(case m=>(intro x _;go_simp;rw[Ba sX]));simp only[A1];refine B1 (v:=?vp3) uN ?m ?_;(case m=>(intro x _;go_simp;try with_reducible rfl));simp only[A1]
   refine B1 (v:=?vp4) uN ?m ?_;(case m=>(intro x _;go_simp;try with_reducible rfl));simp only[A1];refine B4 3 _ ⟨B,0,none⟩ (.int .i64 a) uN rfl rfl (fun x c=>by have c0:=(p.out x c).1;go_simp) ?_;simp only[A1];refine C2 uN o.out (fun _=>uN) ?_;simp only[A1]
   refine B1 (v:=?vp7) uN ?m ?_;(case m=>(intro x _;go_simp;try with_reducible rfl));simp only[A1];refine GB uN ?_;simp only[A1];refine GB uN ?_;simp only[A1];refine GB uN ?_;simp only[A1];refine GB uN ?_;simp only[A1];refine GB uN ?_;simp only[A1];refine GB uN ?_;simp only[A1]
   refine GB uN ?_;simp only[A1];refine B1 (v:=?vp15) uN ?m ?_;(case m=>(intro x _;go_simp;try with_reducible rfl));simp only[A1];refine B1 (v:=?vp16) uN ?m ?_;(case m=>(intro x _;go_simp;try with_reducible rfl));simp only[A1];refine DX fun x c=>?_
   go_wp2
   go_ret
   exact⟨AJ xQ,r.out _ c⟩
  |true=>
   rw[c] at o g
   go_enter func84,ntmps84
   go_wp2_with (first|(with_reducible refine(c1 _).mono ?_;rintro e j ⟨rfl,rfl⟩)|(with_reducible refine(c2 _).mono ?_;rintro e j ⟨rfl,rfl⟩))
   rw[i.out,C.out];refine E1 (S:=fun x=>Below (B+1) d x) 17 uN uN (Ea _ _).drew ?_;simp only[Gn,Bk,Gp,Gq];refine B1 (v:=?vq0) uN ?m ?_;(case m=>(intro x _;go_simp;try with_reducible rfl));simp only[A1]
   refine B1 (v:=?vq1) uN ?m ?_;(case m=>(intro x _;go_simp;try with_reducible rfl));simp only[A1];refine B1 (v:=?vq2) uN ?m ?_;(case m=>(intro x _;go_simp;rw[Ba sX]));simp only[A1];refine B1 (v:=?vq3) uN ?m ?_;(case m=>(intro x _;go_simp;try with_reducible rfl));simp only[A1]
   refine B1 (v:=?vq4) uN ?m ?_;(case m=>(intro x _;go_simp;try with_reducible rfl));simp only[A1];refine B4 3 _ ⟨B,0,none⟩ (.int .i64 a) uN rfl rfl (fun x c=>by have c0:=(p.out x c).1;go_simp) ?_;simp only[A1];refine C2 uN o.out (fun _=>uN) ?_;simp only[A1]
   refine B1 (v:=?vq7) uN ?m ?_;(case m=>(intro x _;go_simp;try with_reducible rfl));simp only[A1];refine B1 (v:=?vq8) uN ?m ?_;(case m=>(intro x _;go_simp;try with_reducible rfl));simp only[A1];refine B1 (v:=?vq9) uN ?m ?_;(case m=>(intro x _;go_simp;try with_reducible rfl));simp only[A1]
   refine B1 (v:=?vq10) uN ?m ?_;(case m=>(intro x _;go_simp;rw[Ba sX]));simp only[A1];refine B1 (v:=?vq11) uN ?m ?_;(case m=>(intro x _;go_simp;try with_reducible rfl));simp only[A1];refine B1 (v:=?vq12) uN ?m ?_;(case m=>(intro x _;go_simp;try with_reducible rfl));simp only[A1]
   refine B4 3 _ ⟨B,1,none⟩ (.int .i64 b) uN rfl rfl (fun x c=>by have c0:=(p.out x c).2;go_simp) ?_;simp only[A1];refine C2 uN H.out (fun _=>uN) ?_;simp only[A1];refine B1 (v:=?vq15) uN ?m ?_;(case m=>(intro x _;go_simp;try with_reducible rfl));simp only[A1]
   refine B1 (v:=?vq16) uN ?m ?_;(case m=>(intro x _;go_simp;try with_reducible rfl));simp only[A1];refine DX fun x c=>?_
   go_wp2
   go_ret
   exact⟨AJ xQ,r.out _ c⟩
def KC (s h:Int):Bool:=decide (0<=s)&&decide ((s+30) / 2+(s+30)%2<h)
theorem Xx {c m:Nat}{v:Int}(h1:-32<=v)(h2:v<=31):EP c m v=KC (32*(c:Int)+v) (16*(m:Int)):=by
 unfold EP KC;rw[Gm (show -32<=v/\v<=31 from⟨h1,h2⟩),Gs,<-Bool.decide_and];by_cases h:0<=32*(c:Int)+v/\32*(c:Int)+v+30<=32*(m:Int)-2
 ·rw[Gm h,Gm];omega
 ·rw[Gl h,Gl];omega
theorem eY (s h:Int)(w:A5)(h1:-100<=s)(h2:s<=100000):A9 prog 87 #[.int .i64 s,.int .i64 h] w fun e c=>e=.returned (.bool (KC s h))/\w=c:=by
 have a:=Fx (show KC s h=(decide (0<=s)&&decide ((s+30) / 2+(s+30)%2<h)) from rfl);generalize KC s h=y at *;by_cases b:0<=s
 ·have t0:decide (0<=s)=true:=Gm b;rw[t0] at a;have e1:(s+30).tdiv 2=(s+30) / 2:=Le sX;have e2:(s+30).tmod 2=(s+30)%2:=Lh sX;have d:IntKind.i64.wrap ((s+30) / 2)=(s+30) / 2:=CE sX;have f:0<=(s+30) / 2/\(s+30) / 2<=100000:=sX;have g:0<=(s+30)%2/\(s+30)%2<=1:=sX;generalize (s+30) / 2=u at *;generalize (s+30)%2=v at *;exact Wdm
 ·have t0:decide (0<=s)=false:=Gl b;rw[t0] at a;exact Wdm
set_option maxRecDepth 100000 in
theorem qB (k n a b:Int)(w:A5):A9 prog 53 #[.int .i64 k,.int .i64 n,.agg (BK a b)] w fun e w'=>e=.returned (.bool (H1 k n a b))/\Below w.heap.size w w':=by
 have f:=Fx (show H1 k n a b=(LB k n&&(EP (n.toNat%acr k) (acr k) a&&EP (n.toNat / acr k) (dow k) b)) from rfl);generalize H1 k n a b=y at *;obtain⟨B,E⟩:=Aj w.heap.size;obtain⟨d,g⟩:=Aj (w.alloc (.cells (BK a b) 73 (0,0)));have U:d.heap[B]? =some (.cells (BK a b) 73 (0,0)):=by rw[<-g,<-E];exact heap_alloc_new w _
 have hz:d.heap.size=B+1:=by rw[<-g,<-E];simp
 have K:∀(x y:A5),Below (B+1) d x->Below x.heap.size x y->Below (B+1) d y:=fun x y c hy=>c.trans (hy.mono (by have:=c.size;omega));have F:=Fx (fun(x:A5) (c:Below (B+1) d x)=>HV ((c.block B sX).trans U));have j:Below w.heap.size w d:=by rw[<-g];exact(Ea _ w).alloc (B9 _) _
 have l:=Fx (fun(x:A5) (c:Below (B+1) d x)=>(j.trans (c.mono sX):Below w.heap.size w x));have V:=Fx (fun(x:A5) (c:Below (B+1) d x)=>((Yl k x).mono fun e y h=>⟨h.1,K x y c h.2⟩:A9 prog 85 #[.int .i64 k] x fun e y=>e=.returned (.int .i64 (D1 k:Int))/\Below (B+1) d y));have X:=Fx (fun(x:A5) (c:Below (B+1) d x)=>((XC k x).mono fun e y h=>⟨h.1,K x y c h.2⟩:A9 prog 65 #[.int .i64 k] x fun e y=>e=.returned (.int .i64 (acr k:Int))/\Below (B+1) d y));have G:=Fx (fun(x:A5) (c:Below (B+1) d x)=>((SG k x).mono fun e y h=>⟨h.1,K x y c h.2⟩:A9 prog 49 #[.int .i64 k] x fun e y=>e=.returned (.agg (NH k))/\Below (B+1) d y));unfold BK at *;have p:=Fx g;have ab:=Fx E;have r:Below (B+1) d d:=Ea _ _;clear U hz j g E K;cases hc:LB k n with
 |false=>
  rw[hc] at f;by_cases I:n<0
  ·have t0:decide (n<0)=true:=Gm I;clear hc I
   go_enter func53,ntmps53
   go_wp2
   rw[p.out]
   go_ret
   exact⟨AJ (by rw[f.out];rfl),l.out _ r⟩
  ·have t0:decide (n<0)=false:=Gl I;have t1:decide ((D1 k:Int)<=n)=true:=Gm (by
    have:¬ (0<=n/\n.toNat<D1 k):=fun h=>by rw[UO.2 h] at hc;cases hc
    omega)
   generalize D1 k=M at *;clear hc I
   go_enter func53,ntmps53
   go_wp2_with fail
   rw[p.out];refine(V.out _ r).mono ?_;rintro e x ⟨rfl,c⟩
   exact Wdk
 |true=>
  rw[hc] at f;obtain⟨q0,N⟩:=UO.1 hc;obtain⟨q,rfl⟩:∃q:Nat,n=(q:Int):=⟨n.toNat,sX⟩;rw[Lg] at f N;obtain⟨r1,r2,r3,z0,m1,m2,m3,m4⟩:=Zp N;have t0:decide ((q:Int)<0)=false:=Gl sX;have t1:decide (D1 k<=q)=false:=Gl sX;clear hc N q0;generalize q%acr k=u at *;generalize q / acr k=v at *;have s:=Fx (fun(x:A5) (c:Below (B+1) d x) (h1:-32<=a) (h2:a<=31)=>(eY (32*(u:Int)+a) (DF k) x sX sX).mono fun e y h=>(⟨h.1,h.2▸c⟩:e=.returned (.bool (KC (32*(u:Int)+a) (DF k)))/\Below (B+1) d y));have O:=Fx (fun(x:A5) (c:Below (B+1) d x) (h1:-32<=b) (h2:b<=31)=>(eY (32*(v:Int)+b) (DP k) x sX sX).mono fun e y h=>(⟨h.1,h.2▸c⟩:e=.returned (.bool (KC (32*(v:Int)+b) (DP k)))/\Below (B+1) d y));have Y:=Fx (fun(h1:-32<=a) (h2:a<=31)=>(by rw[(HY k).2.2.1];exact Xx h1 h2:EP u (acr k) a=KC (32*(u:Int)+a) (DF k)));have Z:=Fx (fun(h1:-32<=b) (h2:b<=31)=>(by rw[(HY k).2.2.2.1];exact Xx h1 h2:EP v (dow k) b=KC (32*(v:Int)+b) (DP k)));have P:=Fx (fun(h:¬ (-32<=a/\a<=31))=>(by unfold EP;rw[Gl h];rfl:EP u (acr k) a=false));have Q:=Fx (fun(h:¬ (-32<=b/\b<=31))=>(by unfold EP;rw[Gl h];rfl:EP v (dow k) b=false));have ac:=fun w=>(Qc (DF k) (DP k) (BE k) (BQ k) w).1;have ad:=fun w=>(Qc (DF k) (DP k) (BE k) (BQ k) w).2;unfold NH at G;generalize EP u (acr k) a=aa at *;generalize EP v (dow k) b=af at *;generalize D1 k=M at *;generalize acr k=A at *;generalize dow k=D at *;generalize DF k=W at *;generalize DP k=H at *;generalize BE k=R at *;generalize BQ k=L at *
  go_enter func53,ntmps53
  go_wp2_with fail
  rw[p.out,ab.out];refine(V.out _ r).mono ?_;rintro e x ⟨rfl,c⟩
  go_wp2_with fail
  refine(X.out _ c).mono ?_;rintro e x2 ⟨rfl,t⟩
  go_wp2_with fail
  refine(X.out _ t).mono ?_;rintro e x3 ⟨rfl,C⟩;clear c t
  go_wp2
  go_loopw [9] (fun z wr=>∃i:Nat,i<=2/\z=.int .i64 i/\Below (B+1) d wr/\(0<i->-32<=a/\a<=31)/\(1<i->-32<=b/\b<=31)) (fun z _=>2-(RowKit.intOf z).toNat)
  case atStart=>exact⟨0,sX,rfl,C,sX,sX⟩
  case round=>
   clear C;obtain⟨i,ae,rfl,c,o,j⟩:=hrel;have T:i=0\/i=1\/i=2:=sX;obtain⟨l0,l1⟩:=F.out _ c;rcases T with rfl|rfl|rfl
   case _=>
    by_cases h1:a < -32
    ·have t2:decide (a < -32)=true:=Gm h1;have e1:=P.out sX;clear h1 o j
     exact Wdp
    have t2:decide (a < -32)=false:=Gl h1;by_cases h2:31<a
    ·have t3:decide (31<a)=true:=Gm h2;have e1:=P.out sX;clear h1 h2 o j
     exact Wdp
    have t3:decide (31<a)=false:=Gl h2;have hr:-32<=a/\a<=31:=sX;clear h1 h2 o j
    go_wp2
    go_roundw
    case rel=>exact⟨1,sX,uO,c,fun _=>hr,sX⟩
    case measure=>simp[RowKit.intOf]
   case _=>
    replace o:=o sX
    by_cases h1:b < -32
    ·have t2:decide (b < -32)=true:=Gm h1;have e1:=Q.out sX;clear h1 j
     exact Wdl
    have t2:decide (b < -32)=false:=Gl h1;by_cases h2:31<b
    ·have t3:decide (31<b)=true:=Gm h2;have e1:=Q.out sX;clear h1 h2 j
     exact Wdl
    have t3:decide (31<b)=false:=Gl h2;have hr:-32<=b/\b<=31:=sX;clear h1 h2 j
    go_wp2
    go_roundw
    case rel=>exact⟨2,sX,uO,c,fun _=>o,fun _=>hr⟩
    case measure=>simp[RowKit.intOf]
   case _=>
    obtain⟨a1,a2⟩:=o sX;obtain⟨b1,b2⟩:=j sX;have e1:=Y.out a1 a2;have e2:=Z.out b1 b2;rw[e1,e2] at f
    replace s:=Fx (fun(x:A5) (c:Below (B+1) d x)=>s.out x c a1 a2)
    replace O:=Fx (fun(x:A5) (c:Below (B+1) d x)=>O.out x c b1 b2)
    clear o j e1 e2 Y Z P Q l0 l1;have w1:IntKind.i64.wrap (32*(u:Int))=32*(u:Int):=CE sX;have w2:IntKind.i64.wrap (32*(u:Int)+a)=32*(u:Int)+a:=CE sX;have w3:IntKind.i64.wrap (32*(v:Int))=32*(v:Int):=CE sX;have w4:IntKind.i64.wrap (32*(v:Int)+b)=32*(v:Int)+b:=CE sX;cases hi:KC (32*(u:Int)+a) W with
    |false=>
     rw[hi] at s f
     go_wp2
     refine E1 (S:=fun x=>Below (B+1) d x) 21 uN uN c.drew ?_;simp only[Gn,Bk,Gp,Gq];refine B1 (v:=?vp0) uN ?m ?_;(case m=>(intro x _;go_simp;try with_reducible rfl));simp only[A1];refine B1 (v:=?vp1) uN ?m ?_;(case m=>(intro x _;go_simp;try with_reducible rfl));simp only[A1]
     refine B1 (v:=?vp2) uN ?m ?_;(case m=>(intro x _;go_simp;try with_reducible rfl));simp only[A1];refine B4 3 _ ⟨B,0,none⟩ (.int .i64 a) uN rfl rfl (fun x c=>by have c0:=(F.out x c).1;go_simp) ?_;simp only[A1];refine B1 (v:=?vp4) uN ?m ?_;(case m=>(intro x _;go_simp;try with_reducible rfl));simp only[A1]
     refine B1 (v:=?vp5) uN ?m ?_;(case m=>(intro x _;go_simp;try with_reducible rfl));simp only[A1];refine C2 uN G.out (fun _=>uN) ?_;simp only[A1];refine B1 (v:=?vp7) uN ?m ?_;(case m=>(intro x _;go_simp;try with_reducible rfl));simp only[A1];refine C2 uN s.out (fun _=>uN) ?_;simp only[A1]
     refine B1 (v:=?vp9) uN ?m ?_;(case m=>(intro x _;go_simp;try with_reducible rfl));simp only[A1];refine GB uN ?_;simp only[A1];refine GB uN ?_;simp only[A1];refine GB uN ?_;simp only[A1];refine GB uN ?_;simp only[A1];refine GB uN ?_;simp only[A1];refine GB uN ?_;simp only[A1]
     refine GB uN ?_;simp only[A1];refine GB uN ?_;simp only[A1];refine GB uN ?_;simp only[A1];refine B1 (v:=?vp19) uN ?m ?_;(case m=>(intro x _;go_simp;try with_reducible rfl));simp only[A1];refine B1 (v:=?vp20) uN ?m ?_;(case m=>(intro x _;go_simp;try with_reducible rfl));simp only[A1];refine DX fun x c=>?_
     exact Wdk
    |true=>
     rw[hi] at s f;generalize KC (32*(v:Int)+b) H=J at *
     go_wp2
     refine E1 (S:=fun x=>Below (B+1) d x) 21 uN uN c.drew ?_;simp only[Gn,Bk,Gp,Gq];refine B1 (v:=?vq0) uN ?m ?_;(case m=>(intro x _;go_simp;try with_reducible rfl));simp only[A1];refine B1 (v:=?vq1) uN ?m ?_;(case m=>(intro x _;go_simp;try with_reducible rfl));simp only[A1]
     refine B1 (v:=?vq2) uN ?m ?_;(case m=>(intro x _;go_simp;try with_reducible rfl));simp only[A1];refine B4 3 _ ⟨B,0,none⟩ (.int .i64 a) uN rfl rfl (fun x c=>by have c0:=(F.out x c).1;go_simp) ?_;simp only[A1];refine B1 (v:=?vq4) uN ?m ?_;(case m=>(intro x _;go_simp;try with_reducible rfl));simp only[A1]
     refine B1 (v:=?vq5) uN ?m ?_;(case m=>(intro x _;go_simp;try with_reducible rfl));simp only[A1];refine C2 uN G.out (fun _=>uN) ?_;simp only[A1];refine B1 (v:=?vq7) uN ?m ?_;(case m=>(intro x _;go_simp;try with_reducible rfl));simp only[A1];refine C2 uN s.out (fun _=>uN) ?_;simp only[A1]
     refine B1 (v:=?vq9) uN ?m ?_;(case m=>(intro x _;go_simp;try with_reducible rfl));simp only[A1];refine B1 (v:=?vq10) uN ?m ?_;(case m=>(intro x _;go_simp;try with_reducible rfl));simp only[A1];refine B1 (v:=?vq11) uN ?m ?_;(case m=>(intro x _;go_simp;try with_reducible rfl));simp only[A1]
     refine B1 (v:=?vq12) uN ?m ?_;(case m=>(intro x _;go_simp;try with_reducible rfl));simp only[A1];refine B4 3 _ ⟨B,1,none⟩ (.int .i64 b) uN rfl rfl (fun x c=>by have c0:=(F.out x c).2;go_simp) ?_;simp only[A1];refine B1 (v:=?vq14) uN ?m ?_;(case m=>(intro x _;go_simp;try with_reducible rfl));simp only[A1]
     refine B1 (v:=?vq15) uN ?m ?_;(case m=>(intro x _;go_simp;try with_reducible rfl));simp only[A1];refine C2 uN G.out (fun _=>uN) ?_;simp only[A1];refine B1 (v:=?vq17) uN ?m ?_;(case m=>(intro x _;go_simp;try with_reducible rfl));simp only[A1];refine C2 uN O.out (fun _=>uN) ?_;simp only[A1]
     refine B1 (v:=?vq19) uN ?m ?_;(case m=>(intro x _;go_simp;try with_reducible rfl));simp only[A1];refine B1 (v:=?vq20) uN ?m ?_;(case m=>(intro x _;go_simp;try with_reducible rfl));simp only[A1];refine DX fun x c=>?_
     exact Wdk
theorem RP (w:A5)(a:Obj):(w.alloc a).heap[w.heap.size]? =some a:=heap_alloc_new w a
theorem Zo (p:Option Aa)(n cap:Nat)(A c q:Int)(w:A5)(h:c<0\/A<=c):A9 prog 100 #[.slice p n cap,.int .i64 A,.int .i64 c,.int .i64 q] w (LS (0,0) w):=by
 by_cases a:c<0
 ·have t0:decide (c<0)=true:=Gm a;clear h a
  exact Wdh
 ·have t0:decide (c<0)=false:=Gl a;have t1:decide (A<=c)=true:=Gm sX;clear h a
  exact Wdh
theorem UT (f:Nat->Int×Int)(p:Option Aa)(n cap:Nat)(A c q:Int)(i:Nat)(w:A5)(d:JF w p n f)(hn:n<=maxLen)(k:0<=c)(h1:c<A)(h:0<=q)(hi:q*A+c=(i:Int))(a:i<n):
  A9 prog 100 #[.slice p n cap,.int .i64 A,.int .i64 c,.int .i64 q] w (LS (f i) w):=by
 unfold maxLen at hn;have t0:decide (c<0)=false:=Gl sX;have t1:decide (A<=c)=false:=Gl sX;obtain⟨P,e⟩:=Aj (q*A);have j:0<=P:=by rw[<-e];exact Lj h (by omega)
 rw[e] at hi;obtain⟨b,o,rfl,hr⟩:=Zg d sX;obtain⟨c0,c1⟩:=hr (w.alloc (.cells #[.int .i64 0,.int .i64 0] 73 (0,0))) ((Ea _ w).alloc (B9 _) _) i a;have g:(i:Int)<(n:Int):=sX;have l:IntKind.i64.wrap P=P:=CE sX;clear d hr;generalize f i=y at *
 exact Wdh
theorem Y3 (n A:Nat):(((n / A:Nat):Int)-1)*(A:Int)+((n%A:Nat):Int)=(n:Int)-(A:Int):=by
 have h2:((A:Int)*((n / A:Nat):Int)+((n%A:Nat):Int))=(n:Int):=by exact_mod_cast Nat.div_add_mod n A
 rw[Int.sub_mul,Int.one_mul,Int.mul_comm];omega
theorem Qle (f:Nat->Int×Int)(p:Option Aa)(n cap A:Nat)(x:A5)(b:JF x p n f)(hn:n<=maxLen)(h1:1<=A):
  A9 prog 100 #[.slice p n cap,.int .i64 (A:Int),.int .i64 (((n%A:Nat):Int)-1),.int .i64 ((n / A:Nat):Int)] x (LS (FY f n A) x):=by
 obtain⟨-,-,c,a,-,-⟩:=Q4 (n:=n) h1;unfold FY;by_cases h:0<n%A
 ·rw[Bb h];have h2:((A:Int)*((n / A:Nat):Int)+((n%A:Nat):Int))=(n:Int):=by exact_mod_cast Nat.div_add_mod n A
  rw[Int.mul_comm] at h2;exact UT f p n cap _ _ _ (n-1) x b hn sX sX (Int.natCast_nonneg _) (by have:=a h;omega) (by have:=a h;omega)
 ·rw[Ba h];exact Zo p n cap _ _ _ x sX
theorem sI (f:Nat->Int×Int)(p:Option Aa)(n cap A:Nat)(x:A5)(a:JF x p n f)(hn:n<=maxLen)(h1:1<=A)(h:0<n / A):
  A9 prog 100 #[.slice p n cap,.int .i64 (A:Int),.int .i64 ((n%A:Nat):Int),.int .i64 (((n / A:Nat):Int)-1)] x (LS (f (n-A)) x):=by
 obtain⟨-,-,c,d,b,-⟩:=Q4 (n:=n) h1;have h2:=Y3 n A;have h3:=b h;exact UT f p n cap _ _ _ (n-A) x a hn sX sX sX sX sX
theorem Ql3 (f:Nat->Int×Int)(p:Option Aa)(n cap A:Nat)(x:A5)(a:JF x p n f)(hn:n<=maxLen)(h1:1<=A)(h:0<n / A):
  A9 prog 100 #[.slice p n cap,.int .i64 (A:Int),.int .i64 (((n%A:Nat):Int)+1),.int .i64 (((n / A:Nat):Int)-1)] x (LS (if n%A<A-1 then f (n-A+1) else (0,0)) x):=by
 obtain⟨-,-,c,d,b,-⟩:=Q4 (n:=n) h1;have h2:=Y3 n A;have h3:=b h;by_cases hg:n%A<A-1
 ·rw[Bb hg];exact UT f p n cap _ _ _ (n-A+1) x a hn sX sX sX sX sX
 ·rw[Ba hg];exact Zo p n cap _ _ _ x sX
theorem jV (f:Nat->Int×Int)(p:Option Aa)(n cap:Nat)(a first:Int)(w:A5)(ha:JF w p n f)(hn:n<=maxLen)(hA:a<=9223372036854775807):
  A9 prog 69 #[.slice p n cap,.int .i64 a,.int .i64 first] w (LS (KR f n a first) w):=by
 have Y:=Fx (show KR f n a first=if a<1 then (0,0) else (GF (FY f n a.toNat).1 (IZ f n a.toNat first).1 (JA f n a.toNat first).1,GF (FY f n a.toNat).2 (IZ f n a.toNat first).2 (JA f n a.toNat first).2) from rfl);generalize KR f n a first=M at *
 by_cases h1:a<1
 ·have t0:decide (a<1)=true:=Gm h1;rw[Bb h1] at Y;clear ha hn hA h1
  go_enter func69,ntmps69
  go_wp2
  refine Hb (Hc rfl _ _ w.heap.size 73 _ (0,0) _ rfl (RP w _) Gr rfl uN) rfl ?_;exact⟨by rw[Y.out];rfl,(Ea _ w).alloc (B9 _) _⟩
 have t0:decide (a<1)=false:=Gl h1;rw[Ba h1] at Y;obtain⟨A,rfl⟩:∃A:Nat,a=(A:Int):=⟨a.toNat,sX⟩;rw[Lg] at Y;have aa:1<=A:=sX;obtain⟨o,m2,m3,m4,m5,m6⟩:=Q4 (n:=n) aa;have z0:((A:Int)==0)=false:=sU;have e1:(n:Int)%(A:Int)=((n%A:Nat):Int):=rfl;have e2:(n:Int) / (A:Int)=((n / A:Nat):Int):=rfl;have au:=hn;unfold maxLen at au;have wd:IntKind.i64.wrap ((n / A:Nat):Int)=((n / A:Nat):Int):=OG sX;have T:=Fx (show IZ f n A first=if upV n A first then f (n-A) else FY f n A from rfl);have V:=Fx (show JA f n A first=if upV n A first then (if n%A<A-1 then f (n-A+1) else (0,0)) else FY f n A from rfl);have K:upV n A first=(decide (0<n / A)&&decide (first<((n / A:Nat):Int))):=rfl
 have ae:=Fx (fun x (b:Below w.heap.size w x)=>Qle f p n cap A x (ha.mono b) hn aa);have ak:=fun x (b:Below w.heap.size w x)=>sI f p n cap A x (ha.mono b) hn aa;have al:=fun x (b:Below w.heap.size w x)=>Ql3 f p n cap A x (ha.mono b) hn aa;generalize FY f n A=L at *;generalize IZ f n A first=U at *
 generalize JA f n A first=R at *
 generalize upV n A first=up at *
 generalize f (n-A)=ax at *;generalize (if n%A<A-1 then f (n-A+1) else (0,0))=ay at *;generalize n%A=c at *;generalize n / A=q at *;obtain⟨B,hB⟩:=Aj w.heap.size;obtain⟨wA,W⟩:=Aj (w.alloc zerO);have ai:wA.heap[B]? =some zerO:=by rw[<-W,<-hB];exact heap_alloc_new w _
 have av:wA.heap.size=B+1:=by rw[<-W,<-hB];simp
 have ab:Below B w wA:=by rw[<-W,<-hB];exact(Ea _ w).alloc (B9 _) _
 have aj:=Fx hB;have af:=Fx W;rw[hB] at ae ak al;unfold zerO at af;have az:(c:Int)<=9223372036854775806:=sX;have a0:(q:Int)<=9223372036854775807:=sX;clear ha hn hA h1 hB W o m2 m3 m4 m5 m6;obtain⟨g,i⟩:=L;cases hu:up with
 |false=>
  rw[hu] at T V
  replace T:=Fx (show U=(g,i) from T.out)
  replace V:=Fx (show R=(g,i) from V.out)
  clear ak al;rw[hu] at K;have hg:decide (0<q)=false\/(decide (0<q)=true/\decide (first<(q:Int))=false):=by
   cases h5:decide (0<q) with
   |false=>exact .inl rfl
   |true=>refine .inr ⟨rfl,?_⟩;rw[h5] at K;simpa using K.symm
  clear K hu;rcases hg with t1|⟨t1,t2⟩
  ·exact Wdf
  ·exact Wdf
 |true=>
  rw[hu] at T V
  replace T:=Fx (show U=ax from T.out)
  replace V:=Fx (show R=ay from V.out)
  rw[hu] at K;have hg:decide (0<q)=true/\decide (first<(q:Int))=true:=by simpa using K.symm
  obtain⟨t1,t2⟩:=hg;have ak:=Fx (fun x (b:Below B w x)=>ak x b (by simpa using t1));have al:=Fx (fun x (b:Below B w x)=>al x b (by simpa using t1));clear K hu;obtain⟨Z,u1⟩:=ax;obtain⟨r0,r1⟩:=ay
  go_enter func69,ntmps69
  go_wp2_with fail
  rw[af.out,aj.out]
  go_wp2_with fail
  refine(ae.out wA ab).mono ?_;rintro e z ⟨rfl,m⟩;obtain⟨N,C⟩:=Aj z.heap.size;have am:B+1<=N:=xH;have ac:=(m.block B sX).trans ai;have ad:Below B w z:=ab.trans (m.mono sX);clear m ai av ab;unfold BK;obtain⟨j,d⟩:=Aj (((z.alloc (.cells (BK g i) 73 (0,0))).alloc (.cells (BK g i) 73 (0,0))).alloc (.cells (BK g i) 73 (0,0)));have O:Below B w j:=xA;have J:j.heap[B]? =some zerO:=xP;have Q:j.heap[N]? =some (.cells (BK g i) 73 (0,0)):=xF;have D:j.heap[N+1]? =some (.cells (BK g i) 73 (0,0)):=xC;have E:j.heap[N+1+1]? =some (.cells (BK g i) 73 (0,0)):=xD;have gz:j.heap.size=N+3:=by rw[<-d,<-C];simp
  have an:=Fx C;have I:=Fx d;unfold BK at I;clear d C ac ad af ae;unfold zerO at J
  go_wp2_with fail
  rw[I.out,an.out];refine(ak.out j O).mono ?_;rintro e aq ⟨rfl,G⟩;have ag:=G.size;have v:=G.block
  replace O:Below B w aq:=O.trans (G.mono sX)
  replace J:=(v B sX).trans J
  replace Q:=(v N sX).trans Q
  replace D:=(v (N+1) sX).trans D
  replace E:=(v (N+1+1) sX).trans E
  replace gz:N+3<=aq.heap.size:=sX
  clear G v ag;unfold BK at D;unfold BK;have s1:(prog.info? 73).map (·.size)=some (#[.int .i64 Z,.int .i64 u1]:Array A0).size:=PG;have s2:(#[.int .i64 g,.int .i64 i]:Array A0).size=(#[.int .i64 Z,.int .i64 u1]:Array A0).size:=rfl;have s3:(#[.int .i64 Z,.int .i64 u1]:Array A0).all (·.oneCell')=true:=P6 Z u1
  go_wp2_with (with_reducible refine AK rfl 73 _ _ rfl (N+1) #[.int .i64 Z,.int .i64 u1] #[.int .i64 g,.int .i64 i] rfl rfl 73 D s1 s2 s3 ?_;intro wU u l)
  replace O:=O.grown l sX (fun k hk=>xI)
  have H:=l.block;have ah:=l.size
  replace J:=(H B sX xB).trans J
  replace Q:=(H N sX xB).trans Q
  replace E:=(H (N+1+1) sX xB).trans E
  replace D:wU.heap[N+1]? =some (.cells (BK Z u1) 73 (0,0)):=u
  replace gz:N+3<=wU.heap.size:=sX
  clear u l H ah s1 s2 s3;refine(al.out wU O).mono ?_;rintro e ar ⟨rfl,G⟩;have ag:=G.size;have v:=G.block
  replace O:Below B w ar:=O.trans (G.mono sX)
  replace J:=(v B sX).trans J
  replace Q:=(v N sX).trans Q
  replace D:=(v (N+1) sX).trans D
  replace E:=(v (N+1+1) sX).trans E
  replace gz:N+3<=ar.heap.size:=sX
  clear G v ag;unfold BK at E;unfold BK;have s1:(prog.info? 73).map (·.size)=some (#[.int .i64 r0,.int .i64 r1]:Array A0).size:=PG;have s2:(#[.int .i64 g,.int .i64 i]:Array A0).size=(#[.int .i64 r0,.int .i64 r1]:Array A0).size:=rfl;have s3:(#[.int .i64 r0,.int .i64 r1]:Array A0).all (·.oneCell')=true:=P6 r0 r1
  go_wp2_with (with_reducible refine AK rfl 73 _ _ rfl (N+1+1) #[.int .i64 r0,.int .i64 r1] #[.int .i64 g,.int .i64 i] rfl rfl 73 E s1 s2 s3 ?_;intro P u l)
  replace O:=O.grown l sX (fun k hk=>xI)
  have H:=l.block;have ah:=l.size
  replace J:=(H B sX xB).trans J
  replace Q:=(H N sX xB).trans Q
  replace D:=(H (N+1) sX xB).trans D
  replace E:P.heap[N+1+1]? =some (.cells (BK r0 r1) 73 (0,0)):=u
  replace gz:N+3<=P.heap.size:=sX
  clear u l H ah s1 s2 s3;have F:=Fx (fun(x:A5) (b:Below P.heap.size P x)=>(⟨HV ((b.block N sX).trans Q),HV ((b.block (N+1) sX).trans D),HV ((b.block (N+1+1) sX).trans E)⟩:(x.cell? ⟨N,0,none⟩=some (.int .i64 g)/\x.cell? ⟨N,1,none⟩=some (.int .i64 i))/\(x.cell? ⟨N+1,0,none⟩=some (.int .i64 Z)/\x.cell? ⟨N+1,1,none⟩=some (.int .i64 u1))/\(x.cell? ⟨N+1+1,0,none⟩=some (.int .i64 r0)/\x.cell? ⟨N+1+1,1,none⟩=some (.int .i64 r1))));obtain⟨r,s⟩:=Aj (GF g Z r0);obtain⟨o,t⟩:=Aj (GF i u1 r1);have ao:=Fx (fun(x:A5) (b:Below P.heap.size P x)=>(Qd g Z r0 x).mono fun e y h=>(⟨h.1.trans (by rw[s]),h.2▸b⟩:e=.returned (.int .i64 r)/\Below P.heap.size P y));have ap:=Fx (fun(x:A5) (b:Below P.heap.size P x)=>(Qd i u1 r1 x).mono fun e y h=>(⟨h.1.trans (by rw[t]),h.2▸b⟩:e=.returned (.int .i64 o)/\Below P.heap.size P y));have X:=Fx (show M=(r,o) by rw[Y.out,T.out,V.out,<-s,<-t]);clear s t Y T V;refine E1 (S:=fun x=>Below P.heap.size P x) 15 uN uN (Ea _ _).drew ?_;simp only[Gn,Bk,Gp,Gq];refine AQ ?_;simp only[A1];refine B4 3 _ ⟨(N),0,none⟩ (.int .i64 g) uN rfl rfl (fun x b=>xO) ?_;simp only[A1];refine AQ ?_;simp only[A1];refine B4 3 _ ⟨(N+1),0,none⟩ (.int .i64 Z) uN rfl rfl (fun x b=>xM) ?_;simp only[A1];refine AQ ?_;simp only[A1];refine B4 3 _ ⟨(N+1+1),0,none⟩ (.int .i64 r0) uN rfl rfl (fun x b=>xK) ?_;simp only[A1];refine C2 uN ao.out (fun _=>uN) ?_;simp only[A1];refine AQ ?_;simp only[A1];refine B4 3 _ ⟨(N),1,none⟩ (.int .i64 i) uN rfl rfl (fun x b=>xN) ?_;simp only[A1];refine AQ ?_;simp only[A1];refine B4 3 _ ⟨(N+1),1,none⟩ (.int .i64 u1) uN rfl rfl (fun x b=>xL) ?_;simp only[A1];refine AQ ?_;simp only[A1];refine B4 3 _ ⟨(N+1+1),1,none⟩ (.int .i64 r1) uN rfl rfl (fun x b=>xJ) ?_;simp only[A1];refine C2 uN ap.out (fun _=>uN) ?_;simp only[A1];refine AQ ?_;simp only[A1];refine DX fun x b=>?_;have k0:x.heap[B]? =some (.cells #[.int .i64 0,.int .i64 0] 73 (0,0)):=(b.block B sX).trans J;have D:(prog.info? 73).map (·.size)=some (#[.int .i64 r,.int .i64 o]:Array A0).size:=PG;have E:(#[.int .i64 0,.int .i64 0]:Array A0).size=(#[.int .i64 r,.int .i64 o]:Array A0).size:=rfl;have g3:(#[.int .i64 r,.int .i64 o]:Array A0).all (·.oneCell')=true:=P6 r o
  go_wp2_with (with_reducible refine AK rfl 73 _ _ rfl B #[.int .i64 r,.int .i64 o] #[.int .i64 0,.int .i64 0] rfl rfl 73 k0 D E g3 ?_;intro w3 u l)
  refine Hb (Hc rfl _ _ B 73 _ (0,0) _ rfl u Gr rfl uN) rfl ?_;exact⟨by rw[X.out];rfl,wZ⟩
end Go.Proofs.YtjjmalchelniiaaGreatDoor