/- StripsChecks, 16. No condition. -/
import Derived.Test.YtjjmalchelniiaaGreatDoorStripsChecksMa
import Derived.Test.YtjjmalchelniiaaGreatDoorStripsChecksMb
import Derived.Test.YtjjmalchelniiaaGreatDoorStripsChecksMe
import Derived.Test.YtjjmalchelniiaaGreatDoorStripsChecksMi
import Derived.Test.YtjjmalchelniiaaGreatDoorStripsChecksMj
import Derived.Test.YtjjmalchelniiaaGreatDoorStripsChecksMk
open Go.Proofs.Tryz
open Go renaming World->A5,Calls->A9,Value->A0
set_option maxHeartbeats 4000000
namespace Go.Proofs.YtjjmalchelniiaaGreatDoor
section
open Go.RowKit
abbrev Ir:=@Int.toNat_natCast
abbrev Is:=@Int.tdiv_eq_ediv_of_nonneg
abbrev It:=@Int.tmod_eq_emod_of_nonneg
abbrev Iu:=@underlying191
abbrev Iv:=@run_underlying
abbrev Iw:=@Int.natCast_mul
abbrev Ix:=@ntmps168
theorem XX (a b c:Int)(w:A5):
  A9 prog 169 #[.int .i64 a,.int .i64 b,.int .i64 c] w fun e d=>e=.returned (.int .i64 (LH a b c))/\w=d:=by
 go_enter func169,ntmps169
 go_wp2
 all_goals (go_ret;exact⟨H0 (by unfold LH;omega),rfl⟩)
theorem OD (n:Int)(w:A5):
  A9 prog 171 #[.int .i64 n] w fun e a=>e=.returned (.int .i64 (AM n))/\w=a:=by
 have b:=WV n;have h1:0<=n%64:=by omega
 have h2:n%64<=63:=by omega
 go_enter func171,ntmps171
 go_wp2
 all_goals (go_ret;exact⟨H0 (by unfold AM;omega),rfl⟩)
end
section
open Go.RowKit Go.Lib
def IT (f:Nat->Int×Int)(n a:Nat):Int×Int:=if 0<n%a then f (n-1) else (0,0)
def upV (n a:Nat)(first:Int):Bool:=decide (0<n / a)&&decide (first<((n / a:Nat):Int))
def LY (f:Nat->Int×Int)(n a:Nat)(first:Int):Int×Int:=if upV n a first then f (n-a) else IT f n a
def MA (f:Nat->Int×Int)(n a:Nat)(first:Int):Int×Int:=if upV n a first then (if n%a<a-1 then f (n-a+1) else (0,0)) else IT f n a
def NC (f:Nat->Int×Int)(n:Nat)(a first:Int):Int×Int:=
 if a<1 then (0,0)
 else (LH (IT f n a.toNat).1 (LY f n a.toNat first).1 (MA f n a.toNat first).1,LH (IT f n a.toNat).2 (LY f n a.toNat first).2 (MA f n a.toNat first).2)
def HV (x y z:Int×Int):Array A0:=#[.int .i64 x.1,.int .i64 x.2,.int .i64 y.1,.int .i64 y.2,.int .i64 z.1,.int .i64 z.2]
theorem fB {n A:Nat}(h:1<=A):(n:Int).tmod (A:Int)=((n%A:Nat):Int)/\(n:Int).tdiv (A:Int)=((n / A:Nat):Int)/\n%A<A/\(0<n%A->1<=n)/\(0<n / A->A<=n)/\n / A<=n:=by
 refine⟨by rw[It (by omega)];rfl,by rw[Is (by omega)];rfl,Nat.mod_lt _ h,fun h1=>?_,fun h1=>?_,Nat.div_le_self _ _⟩
 ·rcases Hl n with rfl|h2
  ·simp at h1
  ·exact h2
 ·rcases Ax n A with h2|h2
  ·rw[Cx h2] at h1;omega
  ·exact h2
def HP:Obj:=.cells #[.int .i64 0,.int .i64 0,.int .i64 0,.int .i64 0,.int .i64 0,.int .i64 0] 191 (0,0)
def zerO:Obj:=.cells #[.int .i64 0,.int .i64 0] 73 (0,0)
theorem eM (w:A5)(a b c d:Obj):Below w.heap.size w ((((w.alloc a).alloc b).alloc c).alloc d):=
 ((((Dw _ w).alloc (Ba _) _).alloc (by simp) _).alloc (by simp;omega) _).alloc (by simp;omega) _
theorem OC (w:A5)(a b c d:Obj):((((w.alloc a).alloc b).alloc c).alloc d).drew.heap[w.heap.size]? =some a:=
 CH (CH (CH (heap_alloc_new w a)))
theorem Z0 (f:Nat->Int×Int)(p:Option Addr)(n cap A:Nat)(first:Int)(w:A5)(F:MQ w p n f)(hn:n<=maxLen)(h1:1<=A)(hA:A<=9223372036854775807):
  A9 prog 168 #[.slice p n cap,.int .i64 (A:Int),.int .i64 first] w fun e J=>e=.returned (.agg (HV (IT f n A) (LY f n A first) (MA f n A first)))/\Below w.heap.size w J:=by
 unfold maxLen at hn;obtain⟨K,M,v,y,G,x⟩:=fB (n:=n) h1;have z0:((A:Int)==0)=false:=by simp;omega
 have e1:(n:Int)%(A:Int)=((n%A:Nat):Int):=rfl;have e2:(n:Int) / (A:Int)=((n / A:Nat):Int):=rfl;have N:IntKind.i64.wrap ((n / A:Nat):Int)=((n / A:Nat):Int):=Vu (by omega);have u:=Ft (show IT f n A=if 0<n%A then f (n-1) else (0,0) from rfl);have m:=Ft (show LY f n A first=if upV n A first then f (n-A) else IT f n A from rfl)
 have g:=Ft (show MA f n A first=if upV n A first then (if n%A<A-1 then f (n-A+1) else (0,0)) else IT f n A from rfl);have a:upV n A first=(decide (0<n / A)&&decide (first<((n / A:Nat):Int))):=rfl
 obtain⟨mx,z⟩:=Aj (if first<0 then 0 else first);have H:0<=mx/\first<=mx/\(mx=0\/mx=first):=by rw[<-z];split <;> omega
 have d:=Zy F;clear F;generalize IT f n A=L at *;generalize LY f n A first=U at *
 generalize MA f n A first=R at *
 generalize upV n A first=I at *
 generalize n%A=c at *;generalize n / A=q at *;have i:=Ft (fun O P Q S=>eM w O P Q S);clear K M;have aa:=Ft N;by_cases hc:0<c
 ·have t0:decide (0<c)=true:=Gq (by omega);have m7:=y hc;obtain⟨k,T⟩:=Aj (n-1);have B:k<n:=by omega
  have nk:(n:Int)-1=(k:Int):=by omega
  rw[Bc hc,T] at u;obtain⟨b,o,rfl,hr⟩:=d (by omega);obtain⟨V,c1⟩:=hr _ (i.out HP zerO zerO zerO).drew k B;unfold HP zerO at V c1;clear y;by_cases l:I=true
  rotate_left
  ·rw[Bb l] at m g;have t1:decide ((q:Int)<=mx)=true:=Gq (by
    rcases Hl q with h|h
    ·omega
    ·have W:¬ first<(q:Int):=fun h2=>l (by rw[a,Gq h,Gq h2];rfl)
     omega)
   clear v x a;clear hc hr d l
   go_enter func168,Ix
   go_wp2
   go_region
   go_wp2
   refine Hi (Hj rfl _ _ w.heap.size 191 _ (0,0) _ rfl (OC w _ _ _ _) Iu rfl (by kernel_rfl)) rfl ?_;exact⟨by rw[m.out,g.out,u.out];rfl,(i.out _ _ _ _).drew⟩
  ·rw[Bc l] at m g;rw[a,Am,Fy,Fy] at l;obtain⟨C,X⟩:=l;have Y:=G C;have t1:decide ((q:Int)<=mx)=false:=Gp (by omega);obtain⟨j,hj⟩:=Aj (n-A);have r:j<n:=by omega
   have Z:(n:Int)-(A:Int)=(j:Int):=by omega
   rw[hj] at m g;by_cases t:c<A-1
   ·rw[Bc t] at g;have t2:decide ((c:Int)<(A:Int)-1)=true:=Gq (by omega);have s:j+1<n:=by omega
    clear v x a;obtain⟨c2,c3⟩:=hr _ (i.out HP (.cells #[.int .i64 (f k).1,.int .i64 (f k).2] 73 (0,0)) zerO zerO).drew j r;unfold HP zerO at c2 c3;obtain⟨D,E⟩:=hr _ (i.out HP (.cells #[.int .i64 (f k).1,.int .i64 (f k).2] 73 (0,0)) (.cells #[.int .i64 (f j).1,.int .i64 (f j).2] 73 (0,0)) zerO).drew (j+1) s;unfold HP zerO at D E;clear hc hr d t
    go_enter func168,Ix
    go_wp2
    go_region
    go_wp2
    refine Hi (Hj rfl _ _ w.heap.size 191 _ (0,0) _ rfl (OC w _ _ _ _) Iu rfl (by kernel_rfl)) rfl ?_;exact⟨by rw[m.out,g.out,u.out];rfl,(i.out _ _ _ _).drew⟩
   ·rw[Bb t] at g;have t2:decide ((c:Int)<(A:Int)-1)=false:=Gp (by omega);clear v x a;obtain⟨c2,c3⟩:=hr _ (i.out HP (.cells #[.int .i64 (f k).1,.int .i64 (f k).2] 73 (0,0)) zerO zerO).drew j r;unfold HP zerO at c2 c3;clear hc hr d t
    go_enter func168,Ix
    go_wp2
    go_region
    go_wp2
    refine Hi (Hj rfl _ _ w.heap.size 191 _ (0,0) _ rfl (OC w _ _ _ _) Iu rfl (by kernel_rfl)) rfl ?_;exact⟨by rw[m.out,g.out,u.out];rfl,(i.out _ _ _ _).drew⟩
 ·have t0:decide (0<c)=false:=Gp (by omega);rw[Bb hc] at u;clear y;by_cases l:I=true
  rotate_left
  ·rw[Bb l] at m g;have t1:decide ((q:Int)<=mx)=true:=Gq (by
    rcases Hl q with h|h
    ·omega
    ·have W:¬ first<(q:Int):=fun h2=>l (by rw[a,Gq h,Gq h2];rfl)
     omega)
   clear v x a;clear hc d l
   go_enter func168,Ix
   go_wp2
   go_region
   go_wp2
   refine Hi (Hj rfl _ _ w.heap.size 191 _ (0,0) _ rfl (OC w _ _ _ _) Iu rfl (by kernel_rfl)) rfl ?_;exact⟨by rw[m.out,g.out,u.out];rfl,(i.out _ _ _ _).drew⟩
  ·rw[Bc l] at m g;rw[a,Am,Fy,Fy] at l;obtain⟨C,X⟩:=l;have Y:=G C;have t1:decide ((q:Int)<=mx)=false:=Gp (by omega);obtain⟨j,hj⟩:=Aj (n-A);have r:j<n:=by omega
   have Z:(n:Int)-(A:Int)=(j:Int):=by omega
   rw[hj] at m g;obtain⟨b,o,rfl,hr⟩:=d (by omega);by_cases t:c<A-1
   ·rw[Bc t] at g;have t2:decide ((c:Int)<(A:Int)-1)=true:=Gq (by omega);have s:j+1<n:=by omega
    clear v x a;obtain⟨c2,c3⟩:=hr _ (i.out HP zerO zerO zerO).drew j r;unfold HP zerO at c2 c3;obtain⟨D,E⟩:=hr _ (i.out HP zerO (.cells #[.int .i64 (f j).1,.int .i64 (f j).2] 73 (0,0)) zerO).drew (j+1) s;unfold HP zerO at D E;clear hc hr d t
    go_enter func168,Ix
    go_wp2
    go_region
    go_wp2
    refine Hi (Hj rfl _ _ w.heap.size 191 _ (0,0) _ rfl (OC w _ _ _ _) Iu rfl (by kernel_rfl)) rfl ?_;exact⟨by rw[m.out,g.out,u.out];rfl,(i.out _ _ _ _).drew⟩
   ·rw[Bb t] at g;have t2:decide ((c:Int)<(A:Int)-1)=false:=Gp (by omega);clear v x a;obtain⟨c2,c3⟩:=hr _ (i.out HP zerO zerO zerO).drew j r;unfold HP zerO at c2 c3;clear hc hr d t
    go_enter func168,Ix
    go_wp2
    go_region
    go_wp2
    refine Hi (Hj rfl _ _ w.heap.size 191 _ (0,0) _ rfl (OC w _ _ _ _) Iu rfl (by kernel_rfl)) rfl ?_;exact⟨by rw[m.out,g.out,u.out];rfl,(i.out _ _ _ _).drew⟩
def Rq (x:Int×Int)(w:A5)(e:Ending)(a:A5):Prop:=e=.returned (.agg (F9 x.1 x.2))/\Below w.heap.size w a
theorem TG {w:A5}{N:Nat}{x y z:Int×Int}(h:w.heap[N]? =some (.cells (HV x y z) 191 (0,0))):
  (w.cell? ⟨N,0,none⟩=some (.int .i64 x.1)/\w.cell? ⟨N,2,none⟩=some (.int .i64 y.1)/\w.cell? ⟨N,4,none⟩=some (.int .i64 z.1))/\w.cell? ⟨N,1,none⟩=some (.int .i64 x.2)/\w.cell? ⟨N,3,none⟩=some (.int .i64 y.2)/\w.cell? ⟨N,5,none⟩=some (.int .i64 z.2):=by
 have k:=fun(o:Nat) (v:A0) (hv:[Value.int .i64 x.1,.int .i64 x.2,.int .i64 y.1,.int .i64 y.2,.int .i64 z.1,.int .i64 z.2][o]? =some v)=>A2 (o:=o) (cs:=[.int .i64 x.1,.int .i64 x.2,.int .i64 y.1,.int .i64 y.2,.int .i64 z.1,.int .i64 z.2]) h hv;exact⟨⟨k 0 _ rfl,k 2 _ rfl,k 4 _ rfl⟩,k 1 _ rfl,k 3 _ rfl,k 5 _ rfl⟩
theorem Vb (w:A5)(a b:Obj):((w.alloc a).alloc b).heap[w.heap.size]? =some a:=CH (heap_alloc_new w a)
theorem XC (f:Nat->Int×Int)(p:Option Addr)(n cap:Nat)(d first:Int)(w:A5)(ha:MQ w p n f)(hn:n<=maxLen)(hA:d<=9223372036854775807):
  A9 prog 140 #[.slice p n cap,.int .i64 d,.int .i64 first] w (Rq (NC f n d first) w):=by
 have s:=Ft (show NC f n d first=if d<1 then (0,0) else (LH (IT f n d.toNat).1 (LY f n d.toNat first).1 (MA f n d.toNat first).1,LH (IT f n d.toNat).2 (LY f n d.toNat first).2 (MA f n d.toNat first).2) from rfl);generalize NC f n d first=M at *
 by_cases h1:d<1
 ·have t0:decide (d<1)=true:=Gq h1;rw[Bc h1] at s;clear ha hn hA h1
  go_enter func140,ntmps140
  go_wp2
  refine Hi (Hj rfl _ _ w.heap.size 73 _ (0,0) _ rfl (Vb w _ _) Gx rfl (by kernel_rfl)) rfl ?_;exact⟨by rw[s.out];rfl,((Dw _ w).alloc (Ba _) _).alloc (by simp) _⟩
 ·have t0:decide (d<1)=false:=Gp h1;rw[Bb h1] at s;obtain⟨A,rfl⟩:∃A:Nat,d=(A:Int):=⟨d.toNat,by omega⟩;rw[Ir] at s;have c:=fun x (g:Below w.heap.size w x)=>Z0 f p n cap A first x (ha.mono g) hn (by omega) (by omega)
  have O:Below w.heap.size w ((w.alloc zerO).alloc zerO):=((Dw _ w).alloc (Ba _) _).alloc (by simp) _;generalize IT f n A=L at *;generalize LY f n A first=U at *
  generalize MA f n A first=R at *
  have T:=Vb w zerO zerO;have V:((w.alloc zerO).alloc zerO).heap[w.heap.size+1]? =some zerO:=by simpa using heap_alloc_new (w.alloc zerO) zerO
  have aa:((w.alloc zerO).alloc zerO).heap.size=w.heap.size+2:=by simp
  obtain⟨wA,q⟩:=Aj ((w.alloc zerO).alloc zerO);have ag:=Ft (c wA (q▸O));rw[q] at T V aa O;obtain⟨B,hB⟩:=Aj w.heap.size;rw[hB] at T V aa O;have ab:=Ft q;have ah:=Ft hB;unfold zerO at ab;clear c ha hn h1 hA hB q
  go_enter func140,ntmps140
  go_wp2_with fail
  rw[ab.out,ah.out]
  go_wp2_with (with_reducible refine ag.out.mono ?_;rintro e t ⟨rfl,m⟩;obtain⟨N,W⟩:=Aj t.heap.size;have am:B+2<=N:=(by have:=m.size;omega);have X:=(m.block B (by omega)).trans T;have Y:=(m.block (B+1) (by omega)).trans V;have ai:Below B w t:=O.trans (m.mono (by omega));clear m T V aa O;have ac:=Ft W;unfold HV)
  have ad:=heap_alloc_new t (.cells (HV L U R) 191 (0,0));rw[W] at ad;have aj:Below B w (t.alloc (.cells (HV L U R) 191 (0,0))):=ai.alloc (by omega) _;have an:(t.alloc (.cells (HV L U R) 191 (0,0))).heap.size=N+1:=by simp[W]
  replace X:=CH (ob:=.cells (HV L U R) 191 (0,0)) X
  replace Y:=CH (ob:=.cells (HV L U R) 191 (0,0)) Y
  change Code.wp _ _ _ _ (t.alloc (.cells (HV L U R) 191 (0,0)));generalize t.alloc (.cells (HV L U R) 191 (0,0))=w2 at *;clear W ac ai;obtain⟨G,H⟩:=L;obtain⟨I,J⟩:=U;obtain⟨K,r1⟩:=R;obtain⟨i,u⟩:=Aj (LH G I K);obtain⟨l,v⟩:=Aj (LH H J r1);have ak:=Ft (fun w=>XX G I K w);have al:=Ft (fun w=>XX H J r1 w);rw[u] at ak;rw[v] at al
  replace s:=Ft (show M=(i,l) by rw[s.out,<-u,<-v])
  clear u v ag ab
  go_loopw [17] (fun z wr=>∃j:Nat,j<=2/\z=.int .i64 j/\wr.heap[B]? =some zerO/\wr.heap[B+1]? =some (.cells (F9 (if 0<j then i else 0) (if 1<j then l else 0)) 73 (0,0))/\wr.heap[N]? =some (.cells (HV (G,H) (I,J) (K,r1)) 191 (0,0))/\Below B w wr/\N+1<=wr.heap.size) (fun z _=>2-(intOf z).toNat)
  case atStart=>exact⟨0,by omega,rfl,X,Y,ad,aj,by omega⟩
  case round=>
   clear X Y ad aj an;obtain⟨j,hj,rfl,Z,k1,P,kb,kz⟩:=hrel;obtain⟨⟨x0,x1,x2⟩,x3,x4,x5⟩:=TG P;have D:j=0\/j=1\/j=2:=by omega
   rcases D with rfl|rfl|rfl
   ·go_wp2
    have C:=Ft (fun(x:A5) (g:Below wr.heap.size wr x)=>(ak.out x).mono fun e y h=>(⟨h.1,h.2▸g⟩:e=.returned (.int .i64 i)/\Below wr.heap.size wr y));have E:=Ft (fun(x:A5) (g:Below wr.heap.size wr x)=>TG ((g.block N (by omega)).trans P));refine BU (S:=fun x=>Below wr.heap.size wr x) 15 (by kernel_rfl) (by kernel_rfl) (Dw _ _).drew ?_
    simp only[Gr,Bk,Gs,Gt]
    iterate 4 (refine AJ ?_;simp only[A1])
    refine AR 3 _ ⟨(N),0,none⟩ (.int .i64 G) (by kernel_rfl) rfl rfl (fun x g=>by have Q:=(E.out x g).1.1;go_simp) ?_;simp only[A1]
    iterate 3 (refine AJ ?_;simp only[A1])
    refine AR 3 _ ⟨(N),2,none⟩ (.int .i64 I) (by kernel_rfl) rfl rfl (fun x g=>by have Q:=(E.out x g).1.2.1;go_simp) ?_;simp only[A1]
    iterate 3 (refine AJ ?_;simp only[A1])
    refine AR 3 _ ⟨(N),4,none⟩ (.int .i64 K) (by kernel_rfl) rfl rfl (fun x g=>by have Q:=(E.out x g).1.2.2;go_simp) ?_;simp only[A1];refine AY (by kernel_rfl) C.out (fun _=>by kernel_rfl) ?_;simp only[A1];refine AJ ?_;simp only[A1];refine BS fun x g=>?_;have r:x.heap[B+1]? =some (.cells (F9 0 0) 73 (0,0)):=(g.block (B+1) (by omega)).trans k1;have y0:=(Pv r).1
    have ff:x.frozen? ⟨B+1,0,none⟩=false:=AW (cs:=[.int .i64 0,.int .i64 0]) r
    have F:=Ft (⟨OG ((g.block B (by omega)).trans Z) (by simp),B3 (o:=0) (cs:=[.int .i64 0,.int .i64 0]) (.int .i64 i) r,OG ((g.block N (by omega)).trans P) (by simp;omega),(kb.trans (g.mono (by omega))).setCell (by simp) _,by simp[World.setCell];have:=g.size;omega⟩:(x.setCell ⟨B+1,0,none⟩ (.int .i64 i)).heap[B]? =some zerO/\(x.setCell ⟨B+1,0,none⟩ (.int .i64 i)).heap[B+1]? =some (.cells (F9 i 0) 73 (0,0))/\(x.setCell ⟨B+1,0,none⟩ (.int .i64 i)).heap[N]? =some (.cells (HV (G,H) (I,J) (K,r1)) 191 (0,0))/\Below B w (x.setCell ⟨B+1,0,none⟩ (.int .i64 i))/\N+1<=(x.setCell ⟨B+1,0,none⟩ (.int .i64 i)).heap.size)
    clear r
    go_wp2
    go_roundw
    case rel=>exact⟨1,by omega,rfl,F.out⟩
    case measure=>simp[intOf]
   ·go_wp2
    have C:=Ft (fun(x:A5) (g:Below wr.heap.size wr x)=>(al.out x).mono fun e y h=>(⟨h.1,h.2▸g⟩:e=.returned (.int .i64 l)/\Below wr.heap.size wr y));have E:=Ft (fun(x:A5) (g:Below wr.heap.size wr x)=>TG ((g.block N (by omega)).trans P));refine BU (S:=fun x=>Below wr.heap.size wr x) 15 (by kernel_rfl) (by kernel_rfl) (Dw _ _).drew ?_
    simp only[Gr,Bk,Gs,Gt]
    iterate 4 (refine AJ ?_;simp only[A1])
    refine AR 3 _ ⟨(N),1,none⟩ (.int .i64 H) (by kernel_rfl) rfl rfl (fun x g=>by have Q:=(E.out x g).2.1;go_simp) ?_;simp only[A1]
    iterate 3 (refine AJ ?_;simp only[A1])
    refine AR 3 _ ⟨(N),3,none⟩ (.int .i64 J) (by kernel_rfl) rfl rfl (fun x g=>by have Q:=(E.out x g).2.2.1;go_simp) ?_;simp only[A1]
    iterate 3 (refine AJ ?_;simp only[A1])
    refine AR 3 _ ⟨(N),5,none⟩ (.int .i64 r1) (by kernel_rfl) rfl rfl (fun x g=>by have Q:=(E.out x g).2.2.2;go_simp) ?_;simp only[A1];refine AY (by kernel_rfl) C.out (fun _=>by kernel_rfl) ?_;simp only[A1];refine AJ ?_;simp only[A1];refine BS fun x g=>?_;have r:x.heap[B+1]? =some (.cells (F9 i 0) 73 (0,0)):=(g.block (B+1) (by omega)).trans k1;have y1:=(Pv r).2
    have ff:x.frozen? ⟨B+1,1,none⟩=false:=AW (cs:=[.int .i64 i,.int .i64 0]) r
    have F:=Ft (⟨OG ((g.block B (by omega)).trans Z) (by simp),B3 (o:=1) (cs:=[.int .i64 i,.int .i64 0]) (.int .i64 l) r,OG ((g.block N (by omega)).trans P) (by simp;omega),(kb.trans (g.mono (by omega))).setCell (by simp) _,by simp[World.setCell];have:=g.size;omega⟩:(x.setCell ⟨B+1,1,none⟩ (.int .i64 l)).heap[B]? =some zerO/\(x.setCell ⟨B+1,1,none⟩ (.int .i64 l)).heap[B+1]? =some (.cells (F9 i l) 73 (0,0))/\(x.setCell ⟨B+1,1,none⟩ (.int .i64 l)).heap[N]? =some (.cells (HV (G,H) (I,J) (K,r1)) 191 (0,0))/\Below B w (x.setCell ⟨B+1,1,none⟩ (.int .i64 l))/\N+1<=(x.setCell ⟨B+1,1,none⟩ (.int .i64 l)).heap.size)
    clear r
    go_wp2
    go_roundw
    case rel=>exact⟨2,by omega,rfl,F.out⟩
    case measure=>simp[intOf]
   ·obtain⟨y0,y1⟩:=Pv (a:=i) (b:=l) k1;unfold zerO at Z;have g1:(prog.info? 73).map (·.size)=some (#[.int .i64 i,.int .i64 l]:Array A0).size:=tJ;have g2:(#[.int .i64 0,.int .i64 0]:Array A0).size=(#[.int .i64 i,.int .i64 l]:Array A0).size:=rfl;have g3:(#[.int .i64 i,.int .i64 l]:Array A0).all (·.oneCell')=true:=yI i l
    go_wp2_with (with_reducible refine B2 rfl 73 _ _ rfl B #[.int .i64 i,.int .i64 l] #[.int .i64 0,.int .i64 0] rfl rfl 73 Z g1 g2 g3 ?_;intro w3 ae af)
    refine Hi (Hj rfl _ _ B 73 _ (0,0) _ rfl ae Gx rfl (by kernel_rfl)) rfl ?_;exact⟨by rw[s.out];rfl,by rw[ah.out];exact kb.grown af (by omega) (fun k hk=>by injection hk with hk;omega)⟩
theorem NK (a b c d:Int)(w:A5):(Instr.index 81 (.agg #[.int .i64 a,.int .i64 b,.int .i64 c,.int .i64 d]) (.int .i64 0)).run prog w=.ok (.int .i64 a) w/\
  (Instr.index 81 (.agg #[.int .i64 a,.int .i64 b,.int .i64 c,.int .i64 d]) (.int .i64 1)).run prog w=.ok (.int .i64 b) w:=by
 obtain⟨j,hj⟩:=Q6;have e:(0:Int)<=0/\(0:Int)<((4:Nat):Int):=by omega
 have h1:(0:Int)<=1/\(1:Int)<((4:Nat):Int):=by omega
 constructor
 ·simp only[Instr.index,asIntOf,Ar,Aw,Ap,Iv Hk,Bc e,run_sizeOf w hj,NU,Hc];exact H7 w LX rfl
 ·simp only[Instr.index,asIntOf,Ar,Aw,Ap,Iv Hk,Bc h1,run_sizeOf w hj,NU,Hc];exact H7 w LX rfl
theorem Vz (k:Int):(CS k).tdiv 16=(acr k:Int)/\(CY k).tdiv 16=(dow k:Int)/\(CS k).tdiv 2=((8*acr k:Nat):Int)/\(CY k).tdiv 2=((8*dow k:Nat):Int):=by
 obtain⟨_,_,h3,h4,_⟩:=HR k;rw[h3,h4,Is (by omega),Is (by omega),Is (by omega),Is (by omega)];omega
set_option maxRecDepth 100000 in
theorem VI (k:Int)(w:A5):A9 prog 85 #[.int .i64 k] w fun e g=>e=.returned (.int .i64 (CP k:Int))/\Below w.heap.size w g:=by
 have c:=fun w=>P3 k w;obtain⟨d1,d2,-⟩:=Vz k;obtain⟨-,-,-,-,h,i⟩:=HR k;have hs:(acr k:Int)*(dow k:Int)=(CP k:Int):=(Iw _ _).symm;have n:IntKind.i64.wrap (CP k:Int)=(CP k:Int):=DA (by have:=Zp k;omega);have o:IntKind.i64.wrap (acr k:Int)=(acr k:Int):=DA (by omega);have p:IntKind.i64.wrap (dow k:Int)=(dow k:Int):=DA (by omega)
 have j:=fun w=>(NK (CS k) (CY k) (BC k) (BG k) w).1;have l:=fun w=>(NK (CS k) (CY k) (BC k) (BG k) w).2;unfold JN at c;clear h i;generalize acr k=a at *;generalize dow k=b at *;generalize CP k=m at *;generalize CS k=W at *;generalize CY k=H at *;generalize BC k=R at *;generalize BG k=L at *
 go_enter func85,ntmps85
 go_wp2_with fail
 refine(c _).mono ?_;rintro e q ⟨rfl,d⟩
 go_wp2_with fail
 refine(c _).mono ?_;rintro e r ⟨rfl,f⟩
 go_wp2
 go_ret
 exact⟨rfl,d.trans (f.mono d.size)⟩
theorem gU (k:Int):((CP k:Int)==0) = !DG k:=by
 cases h:DG k with
 |false=>rw[uD h];rfl
 |true=>
  have h1:=uE h;have h2:0<CP k:=Nat.mul_pos h1.1 h1.2;show ((CP k:Int)==0)=false;rw[Fv];omega
set_option maxRecDepth 100000 in
theorem UY (k:Int)(w:A5):A9 prog 65 #[.int .i64 k] w fun e d=>e=.returned (.int .i64 (acr k:Int))/\Below w.heap.size w d:=by
 have c:=fun w=>P3 k w;obtain⟨d1,-⟩:=Vz k;obtain⟨-,-,-,-,f,g⟩:=HR k;have j:IntKind.i64.wrap (acr k:Int)=(acr k:Int):=DA (by omega);have h:=fun w=>(NK (CS k) (CY k) (BC k) (BG k) w).1;have i:=fun w=>(NK (CS k) (CY k) (BC k) (BG k) w).2;unfold JN at c;clear f g;generalize acr k=a at *;generalize CS k=W at *;generalize CY k=H at *;generalize BC k=R at *
 generalize BG k=L at *
 go_enter func65,ntmps65
 go_wp2_with fail
 refine(c _).mono ?_;rintro e l ⟨rfl,b⟩
 go_wp2
 go_ret
 exact⟨rfl,b⟩
theorem vU (k n:Int)(w:A5):A9 prog 120 #[.int .i64 k,.int .i64 n] w fun e f=>e=.returned (.bool (K7 k n))/\w=f:=by
 have c:=fun w=>Pb k w;obtain⟨h1,h2,_⟩:=HR k;rw[<-h1,<-h2] at c;have hs:(acr k:Int)*(dow k:Int)=(CP k:Int):=(Iw _ _).symm;have h:IntKind.i64.wrap (CP k:Int)=(CP k:Int):=DA (by have:=Zp k;omega);have d:=Ft (show K7 k n=(decide (0<=n)&&decide (n<(CP k:Int))) from rfl);generalize K7 k n=y at *;clear h1 h2;generalize acr k=a at *;generalize dow k=b at *
 generalize CP k=m at *;cases t0:decide (0<=n)
 ·rw[t0] at d
  go_enter func120,ntmps120
  go_wp2_with (with_reducible refine(c _).mono ?_;rintro e g ⟨rfl,rfl⟩)
  go_ret
  exact⟨AB (by rw[d.out];rfl),rfl⟩
 ·rw[t0] at d
  go_enter func120,ntmps120
  go_wp2_with (with_reducible refine(c _).mono ?_;rintro e g ⟨rfl,rfl⟩)
  go_ret
  exact⟨AB (by rw[d.out];rfl),rfl⟩
theorem XD (c m:Nat)(v:Int)(w:A5)(hc:c<=1000)(hm:m<=1000):A9 prog 121 #[.int .i64 (c:Int),.int .i64 (m:Int),.int .i64 v] w fun e b=>e=.returned (.bool (EO c m v))/\w=b:=by
 have a:=Ft (show EO c m v=(decide (-32<=v/\v<=31)&&decide (0<=32*(c:Int)+v/\32*(c:Int)+v+30<=32*(m:Int)-2)) from rfl);generalize EO c m v=y at *;by_cases h1:v < -32
 ·have t1:decide (v < -32)=true:=Gq h1;rw[Gp (show ¬ (-32<=v/\v<=31) by omega)] at a
  go_enter func121,ntmps121
  go_wp2
  go_ret
  exact⟨AB (by rw[a.out];rfl),rfl⟩
 have t1:decide (v < -32)=false:=Gp h1;by_cases h2:31<v
 ·have t2:decide (31<v)=true:=Gq h2;rw[Gp (show ¬ (-32<=v/\v<=31) by omega)] at a
  go_enter func121,ntmps121
  go_wp2
  go_ret
  exact⟨AB (by rw[a.out];rfl),rfl⟩
 have t2:decide (31<v)=false:=Gp h2;rw[Gq (show -32<=v/\v<=31 by omega)] at a;by_cases h3:0<=32*(c:Int)+v
 ·have t3:decide (0<=32*(c:Int)+v)=true:=Gq h3;have hr:decide (0<=32*(c:Int)+v/\32*(c:Int)+v+30<=32*(m:Int)-2)=decide (32*(c:Int)+v+30<=2*(16*(m:Int)-1)):=by
   by_cases h:32*(c:Int)+v+30<=2*(16*(m:Int)-1)
   ·rw[Gq h,Gq];omega
   ·rw[Gp h,Gp];omega
  rw[hr] at a;clear hr
  go_enter func121,ntmps121
  go_wp2
  go_ret
  exact⟨AB (by rw[a.out];rfl),rfl⟩
 ·have t3:decide (0<=32*(c:Int)+v)=false:=Gp h3;rw[Gp (show ¬ (0<=32*(c:Int)+v/\32*(c:Int)+v+30<=32*(m:Int)-2) by omega)] at a
  go_enter func121,ntmps121
  go_wp2
  go_ret
  exact⟨AB (by rw[a.out];rfl),rfl⟩
theorem TV {k:Int}{n:Nat}(h:n<CP k):(n:Int).tmod (acr k:Int)=((n%acr k:Nat):Int)/\(n:Int).tdiv (acr k:Int)=((n / acr k:Nat):Int)/\IntKind.i64.wrap ((n / acr k:Nat):Int)=((n / acr k:Nat):Int)/\((acr k:Int)==0)=false/\n%acr k<acr k/\n / acr k<dow k/\acr k<=88/\dow k<=72:=by
 obtain⟨a,h1,h2⟩:=dR h;obtain⟨-,-,-,-,h3,h4⟩:=HR k;refine⟨by rw[It (by omega)];rfl,by rw[Is (by omega)];rfl,Vu (by omega),by simp;omega,h1,h2,h3,h4⟩
set_option maxRecDepth 100000 in
theorem Uu (k n a b:Int)(w:A5):A9 prog 84 #[.int .i64 k,.int .i64 n,.agg (F9 a b)] w fun e H=>e=.returned (.bool (GJ k n a b))/\Below w.heap.size w H:=by
 have c1:=fun w=>vU k n w;have c2:=fun w=>Pb k w;obtain⟨t,z,-⟩:=HR k;rw[<-t,<-z] at c2;clear t z;have g:=Ft (show GJ k n a b=(K7 k n&&(EO (n.toNat%acr k) (acr k) a&&EO (n.toNat / acr k) (dow k) b)) from rfl);generalize GJ k n a b=y at *;obtain⟨B,l⟩:=Aj w.heap.size;obtain⟨d,f⟩:=Aj (w.alloc (.cells (F9 a b) 73 (0,0)))
 have C:d.heap[B]? =some (.cells (F9 a b) 73 (0,0)):=by rw[<-f,<-l];exact heap_alloc_new w _
 have I:d.heap.size=B+1:=by rw[<-f,<-l];simp
 have p:=Ft (fun(x:A5) (c:Below (B+1) d x)=>Pv ((c.block B (by omega)).trans C));have E:Below w.heap.size w d:=by rw[<-f];exact(Dw _ w).alloc (Ba _) _
 have r:=Ft (fun(x:A5) (c:Below (B+1) d x)=>(E.trans (c.mono (by omega)):Below w.heap.size w x));unfold F9 at *;have i:=Ft f;have F:=Ft l;clear C I E f l;cases hc:K7 k n with
 |false=>
  rw[hc] at c1 g;clear hc
  go_enter func84,ntmps84
  go_wp2_with (first|(with_reducible refine(c1 _).mono ?_;rintro e j ⟨rfl,rfl⟩)|(with_reducible refine(c2 _).mono ?_;rintro e j ⟨rfl,rfl⟩))
  go_ret
  exact⟨AB (by rw[g.out];rfl),by rw[i.out];exact r.out _ (Dw _ _)⟩
 |true=>
  rw[hc] at c1 g;obtain⟨J,s⟩:=TA.1 hc;obtain⟨q,rfl⟩:∃q:Nat,n=(q:Int):=⟨n.toNat,by omega⟩;rw[Ir] at g s;obtain⟨r1,r2,r3,L,M,N,O,P⟩:=TV s;have o:=Ft (fun x (c:Below (B+1) d x)=>(XD (q%acr k) (acr k) a x (by omega) (by omega)).mono fun e y h=>(⟨h.1,h.2▸c⟩:e=.returned (.bool (EO (q%acr k) (acr k) a))/\Below (B+1) d y))
  have K:=Ft (fun x (c:Below (B+1) d x)=>(XD (q / acr k) (dow k) b x (by omega) (by omega)).mono fun e y h=>(⟨h.1,h.2▸c⟩:e=.returned (.bool (EO (q / acr k) (dow k) b))/\Below (B+1) d y));clear hc s J;generalize q%acr k=u at *;generalize q / acr k=v at *;generalize acr k=A at *;generalize dow k=D at *;cases c:EO u A a with
  |false=>
   rw[c] at o g
   go_enter func84,ntmps84
   go_wp2_with (first|(with_reducible refine(c1 _).mono ?_;rintro e j ⟨rfl,rfl⟩)|(with_reducible refine(c2 _).mono ?_;rintro e j ⟨rfl,rfl⟩))
   rw[i.out,F.out];refine BU (S:=fun x=>Below (B+1) d x) 17 (by kernel_rfl) (by kernel_rfl) (Dw _ _).drew ?_;simp only[Gr,Bk,Gs,Gt];refine AT (v:=?vp0) (by kernel_rfl) ?m ?_;(case m=>(intro x _;go_simp;try with_reducible rfl));simp only[A1]
   refine AT (v:=?vp1) (by kernel_rfl) ?m ?_;(case m=>(intro x _;go_simp;try with_reducible rfl));simp only[A1];refine AT (v:=?vp2) (by kernel_rfl) ?m ?_;(case m=>(intro x _;go_simp;rw[Bb (by omega)]));simp only[A1];refine AT (v:=?vp3) (by kernel_rfl) ?m ?_;(case m=>(intro x _;go_simp;try with_reducible rfl));simp only[A1]
   refine AT (v:=?vp4) (by kernel_rfl) ?m ?_;(case m=>(intro x _;go_simp;try with_reducible rfl));simp only[A1];refine AR 3 _ ⟨B,0,none⟩ (.int .i64 a) (by kernel_rfl) rfl rfl (fun x c=>by have G:=(p.out x c).1;go_simp) ?_;simp only[A1];refine AY (by kernel_rfl) o.out (fun _=>by kernel_rfl) ?_;simp only[A1]
   refine AT (v:=?vp7) (by kernel_rfl) ?m ?_;(case m=>(intro x _;go_simp;try with_reducible rfl));simp only[A1];refine DW (by kernel_rfl) ?_;simp only[A1];refine DW (by kernel_rfl) ?_;simp only[A1];refine DW (by kernel_rfl) ?_;simp only[A1];refine DW (by kernel_rfl) ?_;simp only[A1];refine DW (by kernel_rfl) ?_;simp only[A1];refine DW (by kernel_rfl) ?_;simp only[A1]
   refine DW (by kernel_rfl) ?_;simp only[A1];refine AT (v:=?vp15) (by kernel_rfl) ?m ?_;(case m=>(intro x _;go_simp;try with_reducible rfl));simp only[A1];refine AT (v:=?vp16) (by kernel_rfl) ?m ?_;(case m=>(intro x _;go_simp;try with_reducible rfl));simp only[A1];refine BS fun x c=>?_
   go_wp2
   go_ret
   exact⟨AB (by rw[g.out];rfl),r.out _ c⟩
  |true=>
   rw[c] at o g
   go_enter func84,ntmps84
   go_wp2_with (first|(with_reducible refine(c1 _).mono ?_;rintro e j ⟨rfl,rfl⟩)|(with_reducible refine(c2 _).mono ?_;rintro e j ⟨rfl,rfl⟩))
   rw[i.out,F.out];refine BU (S:=fun x=>Below (B+1) d x) 17 (by kernel_rfl) (by kernel_rfl) (Dw _ _).drew ?_;simp only[Gr,Bk,Gs,Gt];refine AT (v:=?vq0) (by kernel_rfl) ?m ?_;(case m=>(intro x _;go_simp;try with_reducible rfl));simp only[A1]
   refine AT (v:=?vq1) (by kernel_rfl) ?m ?_;(case m=>(intro x _;go_simp;try with_reducible rfl));simp only[A1];refine AT (v:=?vq2) (by kernel_rfl) ?m ?_;(case m=>(intro x _;go_simp;rw[Bb (by omega)]));simp only[A1];refine AT (v:=?vq3) (by kernel_rfl) ?m ?_;(case m=>(intro x _;go_simp;try with_reducible rfl));simp only[A1]
   refine AT (v:=?vq4) (by kernel_rfl) ?m ?_;(case m=>(intro x _;go_simp;try with_reducible rfl));simp only[A1];refine AR 3 _ ⟨B,0,none⟩ (.int .i64 a) (by kernel_rfl) rfl rfl (fun x c=>by have G:=(p.out x c).1;go_simp) ?_;simp only[A1];refine AY (by kernel_rfl) o.out (fun _=>by kernel_rfl) ?_;simp only[A1]
   refine AT (v:=?vq7) (by kernel_rfl) ?m ?_;(case m=>(intro x _;go_simp;try with_reducible rfl));simp only[A1];refine AT (v:=?vq8) (by kernel_rfl) ?m ?_;(case m=>(intro x _;go_simp;try with_reducible rfl));simp only[A1];refine AT (v:=?vq9) (by kernel_rfl) ?m ?_;(case m=>(intro x _;go_simp;try with_reducible rfl));simp only[A1]
   refine AT (v:=?vq10) (by kernel_rfl) ?m ?_;(case m=>(intro x _;go_simp;rw[Bb (by omega)]));simp only[A1];refine AT (v:=?vq11) (by kernel_rfl) ?m ?_;(case m=>(intro x _;go_simp;try with_reducible rfl));simp only[A1];refine AT (v:=?vq12) (by kernel_rfl) ?m ?_;(case m=>(intro x _;go_simp;try with_reducible rfl));simp only[A1]
   refine AR 3 _ ⟨B,1,none⟩ (.int .i64 b) (by kernel_rfl) rfl rfl (fun x c=>by have G:=(p.out x c).2;go_simp) ?_;simp only[A1];refine AY (by kernel_rfl) K.out (fun _=>by kernel_rfl) ?_;simp only[A1];refine AT (v:=?vq15) (by kernel_rfl) ?m ?_;(case m=>(intro x _;go_simp;try with_reducible rfl));simp only[A1]
   refine AT (v:=?vq16) (by kernel_rfl) ?m ?_;(case m=>(intro x _;go_simp;try with_reducible rfl));simp only[A1];refine BS fun x c=>?_
   go_wp2
   go_ret
   exact⟨AB (by rw[g.out];rfl),r.out _ c⟩
def JQ (s h:Int):Bool:=decide (0<=s)&&decide ((s+30) / 2+(s+30)%2<h)
theorem Vn {c m:Nat}{v:Int}(h1:-32<=v)(h2:v<=31):EO c m v=JQ (32*(c:Int)+v) (16*(m:Int)):=by
 unfold EO JQ;rw[Gq (show -32<=v/\v<=31 from⟨h1,h2⟩),Gw,<-Bool.decide_and];by_cases h:0<=32*(c:Int)+v/\32*(c:Int)+v+30<=32*(m:Int)-2
 ·rw[Gq h,Gq];omega
 ·rw[Gp h,Gp];omega
theorem XE (s h:Int)(w:A5)(h1:-100<=s)(h2:s<=100000):A9 prog 87 #[.int .i64 s,.int .i64 h] w fun e c=>e=.returned (.bool (JQ s h))/\w=c:=by
 have a:=Ft (show JQ s h=(decide (0<=s)&&decide ((s+30) / 2+(s+30)%2<h)) from rfl);generalize JQ s h=y at *;by_cases b:0<=s
 ·have t0:decide (0<=s)=true:=Gq b;rw[t0] at a;have d:(s+30).tdiv 2=(s+30) / 2:=Is (by omega);have f:(s+30).tmod 2=(s+30)%2:=It (by omega);have g:IntKind.i64.wrap ((s+30) / 2)=(s+30) / 2:=DA (by omega);have i:0<=(s+30) / 2/\(s+30) / 2<=100000:=by omega
  have j:0<=(s+30)%2/\(s+30)%2<=1:=by omega
  generalize (s+30) / 2=u at *;generalize (s+30)%2=v at *;clear b
  go_enter func87,ntmps87
  go_wp2
  go_ret
  exact⟨AB (by rw[a.out];rfl),rfl⟩
 ·have t0:decide (0<=s)=false:=Gp b;rw[t0] at a;clear b
  go_enter func87,ntmps87
  go_wp2
  go_ret
  exact⟨AB (by rw[a.out];rfl),rfl⟩
set_option maxRecDepth 100000 in
theorem pG (k n a b:Int)(w:A5):A9 prog 53 #[.int .i64 k,.int .i64 n,.agg (F9 a b)] w fun e w'=>e=.returned (.bool (GJ k n a b))/\Below w.heap.size w w':=by
 have f:=Ft (show GJ k n a b=(K7 k n&&(EO (n.toNat%acr k) (acr k) a&&EO (n.toNat / acr k) (dow k) b)) from rfl);generalize GJ k n a b=y at *;obtain⟨B,F⟩:=Aj w.heap.size;obtain⟨d,g⟩:=Aj (w.alloc (.cells (F9 a b) 73 (0,0)));have V:d.heap[B]? =some (.cells (F9 a b) 73 (0,0)):=by rw[<-g,<-F];exact heap_alloc_new w _
 have hz:d.heap.size=B+1:=by rw[<-g,<-F];simp
 have K:∀(x y:A5),Below (B+1) d x->Below x.heap.size x y->Below (B+1) d y:=fun x y c hy=>c.trans (hy.mono (by have:=c.size;omega));have G:=Ft (fun(x:A5) (c:Below (B+1) d x)=>Pv ((c.block B (by omega)).trans V));have j:Below w.heap.size w d:=by rw[<-g];exact(Dw _ w).alloc (Ba _) _
 have o:=Ft (fun(x:A5) (c:Below (B+1) d x)=>(j.trans (c.mono (by omega)):Below w.heap.size w x));have X:=Ft (fun(x:A5) (c:Below (B+1) d x)=>((VI k x).mono fun e y h=>⟨h.1,K x y c h.2⟩:A9 prog 85 #[.int .i64 k] x fun e y=>e=.returned (.int .i64 (CP k:Int))/\Below (B+1) d y))
 have Y:=Ft (fun(x:A5) (c:Below (B+1) d x)=>((UY k x).mono fun e y h=>⟨h.1,K x y c h.2⟩:A9 prog 65 #[.int .i64 k] x fun e y=>e=.returned (.int .i64 (acr k:Int))/\Below (B+1) d y));have I:=Ft (fun(x:A5) (c:Below (B+1) d x)=>((P3 k x).mono fun e y h=>⟨h.1,K x y c h.2⟩:A9 prog 49 #[.int .i64 k] x fun e y=>e=.returned (.agg (JN k))/\Below (B+1) d y))
 unfold F9 at *;have r:=Ft g;have ac:=Ft F;have s:Below (B+1) d d:=Dw _ _;clear V hz j g F K;cases hc:K7 k n with
 |false=>
  rw[hc] at f;by_cases N:n<0
  ·have t0:decide (n<0)=true:=Gq N;clear hc N
   go_enter func53,ntmps53
   go_wp2
   rw[r.out]
   go_ret
   exact⟨AB (by rw[f.out];rfl),o.out _ s⟩
  ·have t0:decide (n<0)=false:=Gp N;have t1:decide ((CP k:Int)<=n)=true:=Gq (by
    have:¬ (0<=n/\n.toNat<CP k):=fun h=>by rw[TA.2 h] at hc;cases hc
    omega)
   generalize CP k=M at *;clear hc N
   go_enter func53,ntmps53
   go_wp2_with fail
   rw[r.out];refine(X.out _ s).mono ?_;rintro e x ⟨rfl,c⟩
   go_wp2
   go_ret
   exact⟨AB (by rw[f.out];rfl),o.out _ c⟩
 |true=>
  rw[hc] at f;obtain⟨q0,O⟩:=TA.1 hc;obtain⟨q,rfl⟩:∃q:Nat,n=(q:Int):=⟨n.toNat,by omega⟩;rw[Ir] at f O;obtain⟨r1,r2,r3,z0,m1,m2,m3,m4⟩:=TV O;have t0:decide ((q:Int)<0)=false:=Gp (by omega);have t1:decide (CP k<=q)=false:=Gp (by omega);clear hc O q0;generalize q%acr k=u at *;generalize q / acr k=v at *
  have t:=Ft (fun(x:A5) (c:Below (B+1) d x) (h1:-32<=a) (h2:a<=31)=>(XE (32*(u:Int)+a) (CS k) x (by omega) (by omega)).mono fun e y h=>(⟨h.1,h.2▸c⟩:e=.returned (.bool (JQ (32*(u:Int)+a) (CS k)))/\Below (B+1) d y))
  have P:=Ft (fun(x:A5) (c:Below (B+1) d x) (h1:-32<=b) (h2:b<=31)=>(XE (32*(v:Int)+b) (CY k) x (by omega) (by omega)).mono fun e y h=>(⟨h.1,h.2▸c⟩:e=.returned (.bool (JQ (32*(v:Int)+b) (CY k)))/\Below (B+1) d y));have Z:=Ft (fun(h1:-32<=a) (h2:a<=31)=>(by rw[(HR k).2.2.1];exact Vn h1 h2:EO u (acr k) a=JQ (32*(u:Int)+a) (CS k)))
  have aa:=Ft (fun(h1:-32<=b) (h2:b<=31)=>(by rw[(HR k).2.2.2.1];exact Vn h1 h2:EO v (dow k) b=JQ (32*(v:Int)+b) (CY k)));have Q:=Ft (fun(h:¬ (-32<=a/\a<=31))=>(by unfold EO;rw[Gp h];rfl:EO u (acr k) a=false));have T:=Ft (fun(h:¬ (-32<=b/\b<=31))=>(by unfold EO;rw[Gp h];rfl:EO v (dow k) b=false));have ad:=fun w=>(NK (CS k) (CY k) (BC k) (BG k) w).1
  have ae:=fun w=>(NK (CS k) (CY k) (BC k) (BG k) w).2;unfold JN at I;generalize EO u (acr k) a=ab at *;generalize EO v (dow k) b=ag at *;generalize CP k=M at *;generalize acr k=A at *;generalize dow k=D at *;generalize CS k=W at *;generalize CY k=H at *;generalize BC k=R at *;generalize BG k=L at *
  go_enter func53,ntmps53
  go_wp2_with fail
  rw[r.out,ac.out];refine(X.out _ s).mono ?_;rintro e x ⟨rfl,c⟩
  go_wp2_with fail
  refine(Y.out _ c).mono ?_;rintro e x2 ⟨rfl,C⟩
  go_wp2_with fail
  refine(Y.out _ C).mono ?_;rintro e x3 ⟨rfl,E⟩;clear c C
  go_wp2
  go_loopw [9] (fun z wr=>∃i:Nat,i<=2/\z=.int .i64 i/\Below (B+1) d wr/\(0<i->-32<=a/\a<=31)/\(1<i->-32<=b/\b<=31)) (fun z _=>2-(RowKit.intOf z).toNat)
  case atStart=>exact⟨0,by omega,rfl,E,by omega,by omega⟩
  case round=>
   clear E;obtain⟨i,af,rfl,c,p,j⟩:=hrel;have U:i=0\/i=1\/i=2:=by omega
   obtain⟨l0,l1⟩:=G.out _ c;rcases U with rfl|rfl|rfl
   case _=>
    by_cases h1:a < -32
    ·have t2:decide (a < -32)=true:=Gq h1;have l:=Q.out (by omega);clear h1 p j
     go_wp2
     go_ret
     exact⟨AB (by rw[f.out,l];rfl),o.out _ c⟩
    have t2:decide (a < -32)=false:=Gp h1;by_cases h2:31<a
    ·have t3:decide (31<a)=true:=Gq h2;have l:=Q.out (by omega);clear h1 h2 p j
     go_wp2
     go_ret
     exact⟨AB (by rw[f.out,l];rfl),o.out _ c⟩
    have t3:decide (31<a)=false:=Gp h2;have hr:-32<=a/\a<=31:=by omega
    clear h1 h2 p j
    go_wp2
    go_roundw
    case rel=>exact⟨1,by omega,by go_num,c,fun _=>hr,by omega⟩
    case measure=>simp[RowKit.intOf]
   case _=>
    replace p:=p (by omega)
    by_cases h1:b < -32
    ·have t2:decide (b < -32)=true:=Gq h1;have l:=T.out (by omega);clear h1 j
     go_wp2
     go_ret
     exact⟨AB (by rw[f.out,l];cases ab <;> rfl),o.out _ c⟩
    have t2:decide (b < -32)=false:=Gp h1;by_cases h2:31<b
    ·have t3:decide (31<b)=true:=Gq h2;have l:=T.out (by omega);clear h1 h2 j
     go_wp2
     go_ret
     exact⟨AB (by rw[f.out,l];cases ab <;> rfl),o.out _ c⟩
    have t3:decide (31<b)=false:=Gp h2;have hr:-32<=b/\b<=31:=by omega
    clear h1 h2 j
    go_wp2
    go_roundw
    case rel=>exact⟨2,by omega,by go_num,c,fun _=>p,fun _=>hr⟩
    case measure=>simp[RowKit.intOf]
   case _=>
    obtain⟨a1,a2⟩:=p (by omega);obtain⟨b1,b2⟩:=j (by omega);have l:=Z.out a1 a2;have e2:=aa.out b1 b2;rw[l,e2] at f
    replace t:=Ft (fun(x:A5) (c:Below (B+1) d x)=>t.out x c a1 a2)
    replace P:=Ft (fun(x:A5) (c:Below (B+1) d x)=>P.out x c b1 b2)
    clear p j l e2 Z aa Q T l0 l1;have w1:IntKind.i64.wrap (32*(u:Int))=32*(u:Int):=DA (by omega);have w2:IntKind.i64.wrap (32*(u:Int)+a)=32*(u:Int)+a:=DA (by omega);have w3:IntKind.i64.wrap (32*(v:Int))=32*(v:Int):=DA (by omega);have w4:IntKind.i64.wrap (32*(v:Int)+b)=32*(v:Int)+b:=DA (by omega);cases hi:JQ (32*(u:Int)+a) W with
    |false=>
     rw[hi] at t f
     go_wp2
     refine BU (S:=fun x=>Below (B+1) d x) 21 (by kernel_rfl) (by kernel_rfl) c.drew ?_;simp only[Gr,Bk,Gs,Gt];refine AT (v:=?vp0) (by kernel_rfl) ?m ?_;(case m=>(intro x _;go_simp;try with_reducible rfl));simp only[A1];refine AT (v:=?vp1) (by kernel_rfl) ?m ?_;(case m=>(intro x _;go_simp;try with_reducible rfl));simp only[A1]
     refine AT (v:=?vp2) (by kernel_rfl) ?m ?_;(case m=>(intro x _;go_simp;try with_reducible rfl));simp only[A1];refine AR 3 _ ⟨B,0,none⟩ (.int .i64 a) (by kernel_rfl) rfl rfl (fun x c=>by have c0:=(G.out x c).1;go_simp) ?_;simp only[A1];refine AT (v:=?vp4) (by kernel_rfl) ?m ?_;(case m=>(intro x _;go_simp;try with_reducible rfl));simp only[A1]
     refine AT (v:=?vp5) (by kernel_rfl) ?m ?_;(case m=>(intro x _;go_simp;try with_reducible rfl));simp only[A1];refine AY (by kernel_rfl) I.out (fun _=>by kernel_rfl) ?_;simp only[A1];refine AT (v:=?vp7) (by kernel_rfl) ?m ?_;(case m=>(intro x _;go_simp;try with_reducible rfl));simp only[A1];refine AY (by kernel_rfl) t.out (fun _=>by kernel_rfl) ?_;simp only[A1]
     refine AT (v:=?vp9) (by kernel_rfl) ?m ?_;(case m=>(intro x _;go_simp;try with_reducible rfl));simp only[A1];refine DW (by kernel_rfl) ?_;simp only[A1];refine DW (by kernel_rfl) ?_;simp only[A1];refine DW (by kernel_rfl) ?_;simp only[A1];refine DW (by kernel_rfl) ?_;simp only[A1];refine DW (by kernel_rfl) ?_;simp only[A1];refine DW (by kernel_rfl) ?_;simp only[A1]
     refine DW (by kernel_rfl) ?_;simp only[A1];refine DW (by kernel_rfl) ?_;simp only[A1];refine DW (by kernel_rfl) ?_;simp only[A1];refine AT (v:=?vp19) (by kernel_rfl) ?m ?_;(case m=>(intro x _;go_simp;try with_reducible rfl));simp only[A1];refine AT (v:=?vp20) (by kernel_rfl) ?m ?_;(case m=>(intro x _;go_simp;try with_reducible rfl));simp only[A1];refine BS fun x c=>?_
     go_wp2
     go_ret
     exact⟨AB (by rw[f.out];rfl),o.out _ c⟩
    |true=>
     rw[hi] at t f;generalize JQ (32*(v:Int)+b) H=J at *
     go_wp2
     refine BU (S:=fun x=>Below (B+1) d x) 21 (by kernel_rfl) (by kernel_rfl) c.drew ?_;simp only[Gr,Bk,Gs,Gt];refine AT (v:=?vq0) (by kernel_rfl) ?m ?_;(case m=>(intro x _;go_simp;try with_reducible rfl));simp only[A1];refine AT (v:=?vq1) (by kernel_rfl) ?m ?_;(case m=>(intro x _;go_simp;try with_reducible rfl));simp only[A1]
     refine AT (v:=?vq2) (by kernel_rfl) ?m ?_;(case m=>(intro x _;go_simp;try with_reducible rfl));simp only[A1];refine AR 3 _ ⟨B,0,none⟩ (.int .i64 a) (by kernel_rfl) rfl rfl (fun x c=>by have c0:=(G.out x c).1;go_simp) ?_;simp only[A1];refine AT (v:=?vq4) (by kernel_rfl) ?m ?_;(case m=>(intro x _;go_simp;try with_reducible rfl));simp only[A1]
     refine AT (v:=?vq5) (by kernel_rfl) ?m ?_;(case m=>(intro x _;go_simp;try with_reducible rfl));simp only[A1];refine AY (by kernel_rfl) I.out (fun _=>by kernel_rfl) ?_;simp only[A1];refine AT (v:=?vq7) (by kernel_rfl) ?m ?_;(case m=>(intro x _;go_simp;try with_reducible rfl));simp only[A1];refine AY (by kernel_rfl) t.out (fun _=>by kernel_rfl) ?_;simp only[A1]
     refine AT (v:=?vq9) (by kernel_rfl) ?m ?_;(case m=>(intro x _;go_simp;try with_reducible rfl));simp only[A1];refine AT (v:=?vq10) (by kernel_rfl) ?m ?_;(case m=>(intro x _;go_simp;try with_reducible rfl));simp only[A1];refine AT (v:=?vq11) (by kernel_rfl) ?m ?_;(case m=>(intro x _;go_simp;try with_reducible rfl));simp only[A1]
     refine AT (v:=?vq12) (by kernel_rfl) ?m ?_;(case m=>(intro x _;go_simp;try with_reducible rfl));simp only[A1];refine AR 3 _ ⟨B,1,none⟩ (.int .i64 b) (by kernel_rfl) rfl rfl (fun x c=>by have c0:=(G.out x c).2;go_simp) ?_;simp only[A1];refine AT (v:=?vq14) (by kernel_rfl) ?m ?_;(case m=>(intro x _;go_simp;try with_reducible rfl));simp only[A1]
     refine AT (v:=?vq15) (by kernel_rfl) ?m ?_;(case m=>(intro x _;go_simp;try with_reducible rfl));simp only[A1];refine AY (by kernel_rfl) I.out (fun _=>by kernel_rfl) ?_;simp only[A1];refine AT (v:=?vq17) (by kernel_rfl) ?m ?_;(case m=>(intro x _;go_simp;try with_reducible rfl));simp only[A1];refine AY (by kernel_rfl) P.out (fun _=>by kernel_rfl) ?_;simp only[A1]
     refine AT (v:=?vq19) (by kernel_rfl) ?m ?_;(case m=>(intro x _;go_simp;try with_reducible rfl));simp only[A1];refine AT (v:=?vq20) (by kernel_rfl) ?m ?_;(case m=>(intro x _;go_simp;try with_reducible rfl));simp only[A1];refine BS fun x c=>?_
     go_wp2
     go_ret
     exact⟨AB (by rw[f.out];rfl),o.out _ c⟩
end
end Go.Proofs.YtjjmalchelniiaaGreatDoor
