/- StripsWrites, 14. No condition. -/
import Derived.Test.YtjjmalchelniiaaGreatDoorStripsWritesMa
import Derived.Test.YtjjmalchelniiaaGreatDoorStripsWritesMb
import Derived.Test.YtjjmalchelniiaaGreatDoorStripsWritesMe
import Derived.Test.YtjjmalchelniiaaGreatDoorStripsWritesMh
import Derived.Test.YtjjmalchelniiaaGreatDoorStripsWritesMi
import Derived.Test.YtjjmalchelniiaaGreatDoorStripsWritesMj
open Go.Proofs.Tryz
open Go renaming Value->A0,World->A5,Addr->Aa,Calls->A9
set_option maxHeartbeats 4000000
namespace Go.Proofs.YtjjmalchelniiaaGreatDoor
open Go.RowKit Go.Lib
abbrev Il:=@decide_eq_false
abbrev Im:=@List.take_succ_cons
abbrev In:=@List.drop_succ_cons
abbrev Io:=@decide_eq_true
abbrev Ip:=@decide_eq_true_iff
abbrev Iq:=@List.drop_zero
abbrev Ir:=@beq_eq_false_iff_ne
abbrev Is:=@Int.toNat_natCast
abbrev It:=@Int.tdiv_eq_ediv_of_nonneg
abbrev Iu:=@Int.tmod_eq_emod_of_nonneg
abbrev Iv:=@underlying191
abbrev Iw:=@run_underlying
abbrev Ix:=@Nat.div_add_mod
abbrev Iy:=@Int.natCast_mul
abbrev Iz:=@Int.mul_nonneg
abbrev J0:=@ntmps168
theorem Aj{α}(a:α):∃b,a=b:=⟨a,rfl⟩
def FQ (f:Nat->Int×Int)(n a:Nat):Int×Int:=if 0<n%a then f (n-1) else (0,0)
def upV (n a:Nat)(first:Int):Bool:=decide (0<n / a)&&decide (first<((n / a:Nat):Int))
def JS (f:Nat->Int×Int)(n a:Nat)(first:Int):Int×Int:=if upV n a first then f (n-a) else FQ f n a
def JD (f:Nat->Int×Int)(n a:Nat)(first:Int):Int×Int:=if upV n a first then (if n%a<a-1 then f (n-a+1) else (0,0)) else FQ f n a
def KU (f:Nat->Int×Int)(n:Nat)(a first:Int):Int×Int:=
 if a<1 then (0,0)
 else (GD (FQ f n a.toNat).1 (JS f n a.toNat first).1 (JD f n a.toNat first).1,GD (FQ f n a.toNat).2 (JS f n a.toNat first).2 (JD f n a.toNat first).2)
def IV (x y z:Int×Int):Array A0:=#[.int .i64 x.1,.int .i64 x.2,.int .i64 y.1,.int .i64 y.2,.int .i64 z.1,.int .i64 z.2]
theorem P7 {n A:Nat}(h:1<=A):(n:Int).tmod (A:Int)=((n%A:Nat):Int)/\(n:Int).tdiv (A:Int)=((n / A:Nat):Int)/\n%A<A/\(0<n%A->1<=n)/\(0<n / A->A<=n)/\n / A<=n:=by
 refine⟨by rw[Iu (by omega)];rfl,by rw[It (by omega)];rfl,Nat.mod_lt _ h,fun h1=>?_,fun h1=>?_,Nat.div_le_self _ _⟩
 ·rcases H9 n with rfl|h2
  ·simp at h1
  ·exact h2
 ·rcases Ax n A with h2|h2
  ·rw[Cz h2] at h1;omega
  ·exact h2
def HS:Obj:=.cells #[.int .i64 0,.int .i64 0,.int .i64 0,.int .i64 0,.int .i64 0,.int .i64 0] 191 (0,0)
def zerO:Obj:=.cells #[.int .i64 0,.int .i64 0] 73 (0,0)
theorem bX (w:A5)(a b c d:Obj):Below w.heap.size w ((((w.alloc a).alloc b).alloc c).alloc d):=
 ((((Ea _ w).alloc (Ba _) _).alloc (by simp) _).alloc (by simp;omega) _).alloc (by simp;omega) _
theorem OI (w:A5)(a b c d:Obj):((((w.alloc a).alloc b).alloc c).alloc d).drew.heap[w.heap.size]? =some a:=
 BW (BW (BW (heap_alloc_new w a)))
theorem oA (f:Nat->Int×Int)(p:Option Aa)(n cap A:Nat)(first:Int)(w:A5)(E:IX w p n f)(hn:n<=maxLen)(h1:1<=A)(Z:A<=9223372036854775807):
  A9 prog 168 #[.slice p n cap,.int .i64 (A:Int),.int .i64 first] w fun e I=>e=.returned (.agg (IV (FQ f n A) (JS f n A first) (JD f n A first)))/\Below w.heap.size w I:=by
 unfold maxLen at hn;obtain⟨J,K,v,y,F,x⟩:=P7 (n:=n) h1;have z0:((A:Int)==0)=false:=by simp;omega
 have e1:(n:Int)%(A:Int)=((n%A:Nat):Int):=rfl;have e2:(n:Int) / (A:Int)=((n / A:Nat):Int):=rfl;have M:IntKind.i64.wrap ((n / A:Nat):Int)=((n / A:Nat):Int):=Ug (by omega);have u:=Fy (show FQ f n A=if 0<n%A then f (n-1) else (0,0) from rfl);have m:=Fy (show JS f n A first=if upV n A first then f (n-A) else FQ f n A from rfl)
 have g:=Fy (show JD f n A first=if upV n A first then (if n%A<A-1 then f (n-A+1) else (0,0)) else FQ f n A from rfl);have a:upV n A first=(decide (0<n / A)&&decide (first<((n / A:Nat):Int))):=rfl
 obtain⟨mx,z⟩:=Aj (if first<0 then 0 else first);have G:0<=mx/\first<=mx/\(mx=0\/mx=first):=by rw[<-z];split <;> omega
 have d:=XD E;clear E;generalize FQ f n A=L at *;generalize JS f n A first=U at *
 generalize JD f n A first=R at *
 generalize upV n A first=H at *
 generalize n%A=c at *;generalize n / A=q at *;have i:=Fy (fun N O P Q=>bX w N O P Q);clear J K;have aa:=Fy M;by_cases hc:0<c
 ·have t0:decide (0<c)=true:=Io (by omega);have m7:=y hc;obtain⟨k,S⟩:=Aj (n-1);have B:k<n:=by omega
  have nk:(n:Int)-1=(k:Int):=by omega
  rw[Bc hc,S] at u;obtain⟨b,o,rfl,hr⟩:=d (by omega);obtain⟨T,c1⟩:=hr _ (i.out HS zerO zerO zerO).drew k B;unfold HS zerO at T c1;clear y;by_cases l:H=true
  rotate_left
  ·rw[Bb l] at m g;have t1:decide ((q:Int)<=mx)=true:=Io (by
    rcases H9 q with h|h
    ·omega
    ·have V:¬ first<(q:Int):=fun h2=>l (by rw[a,Io h,Io h2];rfl)
     omega)
   clear v x a;clear hc hr d l
   go_enter func168,J0
   go_wp2
   go_region
   go_wp2
   refine H5 (H6 rfl _ _ w.heap.size 191 _ (0,0) _ rfl (OI w _ _ _ _) Iv rfl (by kernel_rfl)) rfl ?_;exact⟨by rw[m.out,g.out,u.out];rfl,(i.out _ _ _ _).drew⟩
  ·rw[Bc l] at m g;rw[a,Al,Ip,Ip] at l;obtain⟨C,W⟩:=l;have X:=F C;have t1:decide ((q:Int)<=mx)=false:=Il (by omega);obtain⟨j,hj⟩:=Aj (n-A);have r:j<n:=by omega
   have Y:(n:Int)-(A:Int)=(j:Int):=by omega
   rw[hj] at m g;by_cases t:c<A-1
   ·rw[Bc t] at g;have t2:decide ((c:Int)<(A:Int)-1)=true:=Io (by omega);have s:j+1<n:=by omega
    clear v x a;obtain⟨c2,c3⟩:=hr _ (i.out HS (.cells #[.int .i64 (f k).1,.int .i64 (f k).2] 73 (0,0)) zerO zerO).drew j r;unfold HS zerO at c2 c3;obtain⟨c4,D⟩:=hr _ (i.out HS (.cells #[.int .i64 (f k).1,.int .i64 (f k).2] 73 (0,0)) (.cells #[.int .i64 (f j).1,.int .i64 (f j).2] 73 (0,0)) zerO).drew (j+1) s;unfold HS zerO at c4 D;clear hc hr d t
    go_enter func168,J0
    go_wp2
    go_region
    go_wp2
    refine H5 (H6 rfl _ _ w.heap.size 191 _ (0,0) _ rfl (OI w _ _ _ _) Iv rfl (by kernel_rfl)) rfl ?_;exact⟨by rw[m.out,g.out,u.out];rfl,(i.out _ _ _ _).drew⟩
   ·rw[Bb t] at g;have t2:decide ((c:Int)<(A:Int)-1)=false:=Il (by omega);clear v x a;obtain⟨c2,c3⟩:=hr _ (i.out HS (.cells #[.int .i64 (f k).1,.int .i64 (f k).2] 73 (0,0)) zerO zerO).drew j r;unfold HS zerO at c2 c3;clear hc hr d t
    go_enter func168,J0
    go_wp2
    go_region
    go_wp2
    refine H5 (H6 rfl _ _ w.heap.size 191 _ (0,0) _ rfl (OI w _ _ _ _) Iv rfl (by kernel_rfl)) rfl ?_;exact⟨by rw[m.out,g.out,u.out];rfl,(i.out _ _ _ _).drew⟩
 ·have t0:decide (0<c)=false:=Il (by omega);rw[Bb hc] at u;clear y;by_cases l:H=true
  rotate_left
  ·rw[Bb l] at m g;have t1:decide ((q:Int)<=mx)=true:=Io (by
    rcases H9 q with h|h
    ·omega
    ·have V:¬ first<(q:Int):=fun h2=>l (by rw[a,Io h,Io h2];rfl)
     omega)
   clear v x a;clear hc d l
   go_enter func168,J0
   go_wp2
   go_region
   go_wp2
   refine H5 (H6 rfl _ _ w.heap.size 191 _ (0,0) _ rfl (OI w _ _ _ _) Iv rfl (by kernel_rfl)) rfl ?_;exact⟨by rw[m.out,g.out,u.out];rfl,(i.out _ _ _ _).drew⟩
  ·rw[Bc l] at m g;rw[a,Al,Ip,Ip] at l;obtain⟨C,W⟩:=l;have X:=F C;have t1:decide ((q:Int)<=mx)=false:=Il (by omega);obtain⟨j,hj⟩:=Aj (n-A);have r:j<n:=by omega
   have Y:(n:Int)-(A:Int)=(j:Int):=by omega
   rw[hj] at m g;obtain⟨b,o,rfl,hr⟩:=d (by omega);by_cases t:c<A-1
   ·rw[Bc t] at g;have t2:decide ((c:Int)<(A:Int)-1)=true:=Io (by omega);have s:j+1<n:=by omega
    clear v x a;obtain⟨c2,c3⟩:=hr _ (i.out HS zerO zerO zerO).drew j r;unfold HS zerO at c2 c3;obtain⟨c4,D⟩:=hr _ (i.out HS zerO (.cells #[.int .i64 (f j).1,.int .i64 (f j).2] 73 (0,0)) zerO).drew (j+1) s;unfold HS zerO at c4 D;clear hc hr d t
    go_enter func168,J0
    go_wp2
    go_region
    go_wp2
    refine H5 (H6 rfl _ _ w.heap.size 191 _ (0,0) _ rfl (OI w _ _ _ _) Iv rfl (by kernel_rfl)) rfl ?_;exact⟨by rw[m.out,g.out,u.out];rfl,(i.out _ _ _ _).drew⟩
   ·rw[Bb t] at g;have t2:decide ((c:Int)<(A:Int)-1)=false:=Il (by omega);clear v x a;obtain⟨c2,c3⟩:=hr _ (i.out HS zerO zerO zerO).drew j r;unfold HS zerO at c2 c3;clear hc hr d t
    go_enter func168,J0
    go_wp2
    go_region
    go_wp2
    refine H5 (H6 rfl _ _ w.heap.size 191 _ (0,0) _ rfl (OI w _ _ _ _) Iv rfl (by kernel_rfl)) rfl ?_;exact⟨by rw[m.out,g.out,u.out];rfl,(i.out _ _ _ _).drew⟩
def KV (x:Int×Int)(w:A5)(e:Ending)(a:A5):Prop:=e=.returned (.agg (BN x.1 x.2))/\Below w.heap.size w a
theorem SK {w:A5}{N:Nat}{x y z:Int×Int}(h:w.heap[N]? =some (.cells (IV x y z) 191 (0,0))):
  (w.cell? ⟨N,0,none⟩=some (.int .i64 x.1)/\w.cell? ⟨N,2,none⟩=some (.int .i64 y.1)/\w.cell? ⟨N,4,none⟩=some (.int .i64 z.1))/\w.cell? ⟨N,1,none⟩=some (.int .i64 x.2)/\w.cell? ⟨N,3,none⟩=some (.int .i64 y.2)/\w.cell? ⟨N,5,none⟩=some (.int .i64 z.2):=by
 have k:=fun(o:Nat) (v:A0) (hv:[Value.int .i64 x.1,.int .i64 x.2,.int .i64 y.1,.int .i64 y.2,.int .i64 z.1,.int .i64 z.2][o]? =some v)=>AA (o:=o) (cs:=[.int .i64 x.1,.int .i64 x.2,.int .i64 y.1,.int .i64 y.2,.int .i64 z.1,.int .i64 z.2]) h hv;exact⟨⟨k 0 _ rfl,k 2 _ rfl,k 4 _ rfl⟩,k 1 _ rfl,k 3 _ rfl,k 5 _ rfl⟩
theorem Xh (w:A5)(a b:Obj):((w.alloc a).alloc b).heap[w.heap.size]? =some a:=BW (heap_alloc_new w a)
theorem W5 (f:Nat->Int×Int)(p:Option Aa)(n cap:Nat)(d first:Int)(w:A5)(ha:IX w p n f)(hn:n<=maxLen)(hA:d<=9223372036854775807):
  A9 prog 140 #[.slice p n cap,.int .i64 d,.int .i64 first] w (KV (KU f n d first) w):=by
 have s:=Fy (show KU f n d first=if d<1 then (0,0) else (GD (FQ f n d.toNat).1 (JS f n d.toNat first).1 (JD f n d.toNat first).1,GD (FQ f n d.toNat).2 (JS f n d.toNat first).2 (JD f n d.toNat first).2) from rfl);generalize KU f n d first=M at *
 by_cases h1:d<1
 ·have t0:decide (d<1)=true:=Io h1;rw[Bc h1] at s;clear ha hn hA h1
  go_enter func140,ntmps140
  go_wp2
  refine H5 (H6 rfl _ _ w.heap.size 73 _ (0,0) _ rfl (Xh w _ _) Gq rfl (by kernel_rfl)) rfl ?_;exact⟨by rw[s.out];rfl,((Ea _ w).alloc (Ba _) _).alloc (by simp) _⟩
 ·have t0:decide (d<1)=false:=Il h1;rw[Bb h1] at s;obtain⟨A,rfl⟩:∃A:Nat,d=(A:Int):=⟨d.toNat,by omega⟩;rw[Is] at s;have c:=fun x (g:Below w.heap.size w x)=>oA f p n cap A first x (ha.mono g) hn (by omega) (by omega)
  have O:Below w.heap.size w ((w.alloc zerO).alloc zerO):=((Ea _ w).alloc (Ba _) _).alloc (by simp) _;generalize FQ f n A=L at *;generalize JS f n A first=U at *
  generalize JD f n A first=R at *
  have T:=Xh w zerO zerO;have V:((w.alloc zerO).alloc zerO).heap[w.heap.size+1]? =some zerO:=by simpa using heap_alloc_new (w.alloc zerO) zerO
  have aa:((w.alloc zerO).alloc zerO).heap.size=w.heap.size+2:=by simp
  obtain⟨wA,q⟩:=Aj ((w.alloc zerO).alloc zerO);have ag:=Fy (c wA (q▸O));rw[q] at T V aa O;obtain⟨B,hB⟩:=Aj w.heap.size;rw[hB] at T V aa O;have ab:=Fy q;have ah:=Fy hB;unfold zerO at ab;clear c ha hn h1 hA hB q
  go_enter func140,ntmps140
  go_wp2_with fail
  rw[ab.out,ah.out]
  go_wp2_with (with_reducible refine ag.out.mono ?_;rintro e t ⟨rfl,m⟩;obtain⟨N,W⟩:=Aj t.heap.size;have am:B+2<=N:=(by have:=m.size;omega);have X:=(m.block B (by omega)).trans T;have Y:=(m.block (B+1) (by omega)).trans V;have ai:Below B w t:=O.trans (m.mono (by omega));clear m T V aa O;have ac:=Fy W;unfold IV)
  have ad:=heap_alloc_new t (.cells (IV L U R) 191 (0,0));rw[W] at ad;have aj:Below B w (t.alloc (.cells (IV L U R) 191 (0,0))):=ai.alloc (by omega) _;have an:(t.alloc (.cells (IV L U R) 191 (0,0))).heap.size=N+1:=by simp[W]
  replace X:=BW (ob:=.cells (IV L U R) 191 (0,0)) X
  replace Y:=BW (ob:=.cells (IV L U R) 191 (0,0)) Y
  change Code.wp _ _ _ _ (t.alloc (.cells (IV L U R) 191 (0,0)));generalize t.alloc (.cells (IV L U R) 191 (0,0))=w2 at *;clear W ac ai;obtain⟨G,H⟩:=L;obtain⟨I,J⟩:=U;obtain⟨K,r1⟩:=R;obtain⟨i,u⟩:=Aj (GD G I K);obtain⟨l,v⟩:=Aj (GD H J r1);have ak:=Fy (fun w=>Wf G I K w);have al:=Fy (fun w=>Wf H J r1 w);rw[u] at ak;rw[v] at al
  replace s:=Fy (show M=(i,l) by rw[s.out,<-u,<-v])
  clear u v ag ab
  go_loopw [17] (fun z wr=>∃j:Nat,j<=2/\z=.int .i64 j/\wr.heap[B]? =some zerO/\wr.heap[B+1]? =some (.cells (BN (if 0<j then i else 0) (if 1<j then l else 0)) 73 (0,0))/\wr.heap[N]? =some (.cells (IV (G,H) (I,J) (K,r1)) 191 (0,0))/\Below B w wr/\N+1<=wr.heap.size) (fun z _=>2-(intOf z).toNat)
  case atStart=>exact⟨0,by omega,rfl,X,Y,ad,aj,by omega⟩
  case round=>
   clear X Y ad aj an;obtain⟨j,hj,rfl,Z,k1,P,kb,kz⟩:=hrel;obtain⟨⟨x0,x1,x2⟩,x3,x4,x5⟩:=SK P;have D:j=0\/j=1\/j=2:=by omega
   rcases D with rfl|rfl|rfl
   ·go_wp2
    have C:=Fy (fun(x:A5) (g:Below wr.heap.size wr x)=>(ak.out x).mono fun e y h=>(⟨h.1,h.2▸g⟩:e=.returned (.int .i64 i)/\Below wr.heap.size wr y));have E:=Fy (fun(x:A5) (g:Below wr.heap.size wr x)=>SK ((g.block N (by omega)).trans P));refine BY (S:=fun x=>Below wr.heap.size wr x) 15 (by kernel_rfl) (by kernel_rfl) (Ea _ _).drew ?_
    simp only[Im,Bi,In,Iq]
    iterate 4 (refine AG ?_;simp only[A1])
    refine AN 3 _ ⟨(N),0,none⟩ (.int .i64 G) (by kernel_rfl) rfl rfl (fun x g=>by have Q:=(E.out x g).1.1;go_simp) ?_;simp only[A1]
    iterate 3 (refine AG ?_;simp only[A1])
    refine AN 3 _ ⟨(N),2,none⟩ (.int .i64 I) (by kernel_rfl) rfl rfl (fun x g=>by have Q:=(E.out x g).1.2.1;go_simp) ?_;simp only[A1]
    iterate 3 (refine AG ?_;simp only[A1])
    refine AN 3 _ ⟨(N),4,none⟩ (.int .i64 K) (by kernel_rfl) rfl rfl (fun x g=>by have Q:=(E.out x g).1.2.2;go_simp) ?_;simp only[A1];refine AS (by kernel_rfl) C.out (fun _=>by kernel_rfl) ?_;simp only[A1];refine AG ?_;simp only[A1];refine BV fun x g=>?_;have r:x.heap[B+1]? =some (.cells (BN 0 0) 73 (0,0)):=(g.block (B+1) (by omega)).trans k1;have y0:=(HQ r).1
    have ff:x.frozen? ⟨B+1,0,none⟩=false:=AZ (cs:=[.int .i64 0,.int .i64 0]) r
    have F:=Fy (⟨Px ((g.block B (by omega)).trans Z) (by simp),BF (o:=0) (cs:=[.int .i64 0,.int .i64 0]) (.int .i64 i) r,Px ((g.block N (by omega)).trans P) (by simp;omega),(kb.trans (g.mono (by omega))).setCell (by simp) _,by simp[World.setCell];have:=g.size;omega⟩:(x.setCell ⟨B+1,0,none⟩ (.int .i64 i)).heap[B]? =some zerO/\(x.setCell ⟨B+1,0,none⟩ (.int .i64 i)).heap[B+1]? =some (.cells (BN i 0) 73 (0,0))/\(x.setCell ⟨B+1,0,none⟩ (.int .i64 i)).heap[N]? =some (.cells (IV (G,H) (I,J) (K,r1)) 191 (0,0))/\Below B w (x.setCell ⟨B+1,0,none⟩ (.int .i64 i))/\N+1<=(x.setCell ⟨B+1,0,none⟩ (.int .i64 i)).heap.size)
    clear r
    go_wp2
    go_roundw
    case rel=>exact⟨1,by omega,rfl,F.out⟩
    case measure=>simp[intOf]
   ·go_wp2
    have C:=Fy (fun(x:A5) (g:Below wr.heap.size wr x)=>(al.out x).mono fun e y h=>(⟨h.1,h.2▸g⟩:e=.returned (.int .i64 l)/\Below wr.heap.size wr y));have E:=Fy (fun(x:A5) (g:Below wr.heap.size wr x)=>SK ((g.block N (by omega)).trans P));refine BY (S:=fun x=>Below wr.heap.size wr x) 15 (by kernel_rfl) (by kernel_rfl) (Ea _ _).drew ?_
    simp only[Im,Bi,In,Iq]
    iterate 4 (refine AG ?_;simp only[A1])
    refine AN 3 _ ⟨(N),1,none⟩ (.int .i64 H) (by kernel_rfl) rfl rfl (fun x g=>by have Q:=(E.out x g).2.1;go_simp) ?_;simp only[A1]
    iterate 3 (refine AG ?_;simp only[A1])
    refine AN 3 _ ⟨(N),3,none⟩ (.int .i64 J) (by kernel_rfl) rfl rfl (fun x g=>by have Q:=(E.out x g).2.2.1;go_simp) ?_;simp only[A1]
    iterate 3 (refine AG ?_;simp only[A1])
    refine AN 3 _ ⟨(N),5,none⟩ (.int .i64 r1) (by kernel_rfl) rfl rfl (fun x g=>by have Q:=(E.out x g).2.2.2;go_simp) ?_;simp only[A1];refine AS (by kernel_rfl) C.out (fun _=>by kernel_rfl) ?_;simp only[A1];refine AG ?_;simp only[A1];refine BV fun x g=>?_;have r:x.heap[B+1]? =some (.cells (BN i 0) 73 (0,0)):=(g.block (B+1) (by omega)).trans k1;have y1:=(HQ r).2
    have ff:x.frozen? ⟨B+1,1,none⟩=false:=AZ (cs:=[.int .i64 i,.int .i64 0]) r
    have F:=Fy (⟨Px ((g.block B (by omega)).trans Z) (by simp),BF (o:=1) (cs:=[.int .i64 i,.int .i64 0]) (.int .i64 l) r,Px ((g.block N (by omega)).trans P) (by simp;omega),(kb.trans (g.mono (by omega))).setCell (by simp) _,by simp[World.setCell];have:=g.size;omega⟩:(x.setCell ⟨B+1,1,none⟩ (.int .i64 l)).heap[B]? =some zerO/\(x.setCell ⟨B+1,1,none⟩ (.int .i64 l)).heap[B+1]? =some (.cells (BN i l) 73 (0,0))/\(x.setCell ⟨B+1,1,none⟩ (.int .i64 l)).heap[N]? =some (.cells (IV (G,H) (I,J) (K,r1)) 191 (0,0))/\Below B w (x.setCell ⟨B+1,1,none⟩ (.int .i64 l))/\N+1<=(x.setCell ⟨B+1,1,none⟩ (.int .i64 l)).heap.size)
    clear r
    go_wp2
    go_roundw
    case rel=>exact⟨2,by omega,rfl,F.out⟩
    case measure=>simp[intOf]
   ·obtain⟨y0,y1⟩:=HQ (a:=i) (b:=l) k1;unfold zerO at Z;have g1:(prog.info? 73).map (·.size)=some (#[.int .i64 i,.int .i64 l]:Array A0).size:=Pm;have g2:(#[.int .i64 0,.int .i64 0]:Array A0).size=(#[.int .i64 i,.int .i64 l]:Array A0).size:=rfl;have g3:(#[.int .i64 i,.int .i64 l]:Array A0).all (·.oneCell')=true:=OA i l
    go_wp2_with (with_reducible refine B4 rfl 73 _ _ rfl B #[.int .i64 i,.int .i64 l] #[.int .i64 0,.int .i64 0] rfl rfl 73 Z g1 g2 g3 ?_;intro w3 ae af)
    refine H5 (H6 rfl _ _ B 73 _ (0,0) _ rfl ae Gq rfl (by kernel_rfl)) rfl ?_;exact⟨by rw[s.out];rfl,by rw[ah.out];exact kb.grown af (by omega) (fun k hk=>by injection hk with hk;omega)⟩
theorem Pv (a b c d:Int)(w:A5):(Instr.index 81 (.agg #[.int .i64 a,.int .i64 b,.int .i64 c,.int .i64 d]) (.int .i64 0)).run prog w=.ok (.int .i64 a) w/\
  (Instr.index 81 (.agg #[.int .i64 a,.int .i64 b,.int .i64 c,.int .i64 d]) (.int .i64 1)).run prog w=.ok (.int .i64 b) w:=by
 obtain⟨j,hj⟩:=QF;have e:(0:Int)<=0/\(0:Int)<((4:Nat):Int):=by omega
 have h1:(0:Int)<=1/\(1:Int)<((4:Nat):Int):=by omega
 constructor
 ·simp only[Instr.index,asIntOf,Aq,Av,Ao,Iw H7,Bc e,run_sizeOf w hj,Pt,Gw];exact Gt w MS rfl
 ·simp only[Instr.index,asIntOf,Aq,Av,Ao,Iw H7,Bc h1,run_sizeOf w hj,Pt,Gw];exact Gt w MS rfl
theorem Zg (k:Int):(CU k).tdiv 16=(acr k:Int)/\(D4 k).tdiv 16=(dow k:Int)/\(CU k).tdiv 2=((8*acr k:Nat):Int)/\(D4 k).tdiv 2=((8*dow k:Nat):Int):=by
 obtain⟨_,_,h3,h4,_⟩:=HH k;rw[h3,h4,It (by omega),It (by omega),It (by omega),It (by omega)];omega
set_option maxRecDepth 100000 in
theorem X2 (k:Int)(w:A5):A9 prog 85 #[.int .i64 k] w fun e g=>e=.returned (.int .i64 (D2 k:Int))/\Below w.heap.size w g:=by
 have c:=fun w=>O2 k w;obtain⟨d1,d2,-⟩:=Zg k;obtain⟨-,-,-,-,h,i⟩:=HH k;have hs:(acr k:Int)*(dow k:Int)=(D2 k:Int):=(Iy _ _).symm;have n:IntKind.i64.wrap (D2 k:Int)=(D2 k:Int):=CL (by have:=VL k;omega);have o:IntKind.i64.wrap (acr k:Int)=(acr k:Int):=CL (by omega);have p:IntKind.i64.wrap (dow k:Int)=(dow k:Int):=CL (by omega)
 have j:=fun w=>(Pv (CU k) (D4 k) (BJ k) (BP k) w).1;have l:=fun w=>(Pv (CU k) (D4 k) (BJ k) (BP k) w).2;unfold JH at c;clear h i;generalize acr k=a at *;generalize dow k=b at *;generalize D2 k=m at *;generalize CU k=W at *;generalize D4 k=H at *;generalize BJ k=R at *;generalize BP k=L at *
 go_enter func85,ntmps85
 go_wp2_with fail
 refine(c _).mono ?_;rintro e q ⟨rfl,d⟩
 go_wp2_with fail
 refine(c _).mono ?_;rintro e r ⟨rfl,f⟩
 go_wp2
 go_ret
 exact⟨rfl,d.trans (f.mono d.size)⟩
theorem vC (k:Int):((D2 k:Int)==0) = !DV k:=by
 cases h:DV k with
 |false=>rw[lW h];rfl
 |true=>
  have h1:=iJ h;have h2:0<D2 k:=Nat.mul_pos h1.1 h1.2;show ((D2 k:Int)==0)=false;rw[Ir];omega
set_option maxRecDepth 100000 in
theorem Uh (k:Int)(w:A5):A9 prog 65 #[.int .i64 k] w fun e d=>e=.returned (.int .i64 (acr k:Int))/\Below w.heap.size w d:=by
 have c:=fun w=>O2 k w;obtain⟨d1,-⟩:=Zg k;obtain⟨-,-,-,-,f,g⟩:=HH k;have j:IntKind.i64.wrap (acr k:Int)=(acr k:Int):=CL (by omega);have h:=fun w=>(Pv (CU k) (D4 k) (BJ k) (BP k) w).1;have i:=fun w=>(Pv (CU k) (D4 k) (BJ k) (BP k) w).2;unfold JH at c;clear f g;generalize acr k=a at *;generalize CU k=W at *;generalize D4 k=H at *;generalize BJ k=R at *
 generalize BP k=L at *
 go_enter func65,ntmps65
 go_wp2_with fail
 refine(c _).mono ?_;rintro e l ⟨rfl,b⟩
 go_wp2
 go_ret
 exact⟨rfl,b⟩
theorem pW (k n:Int)(w:A5):A9 prog 120 #[.int .i64 k,.int .i64 n] w fun e f=>e=.returned (.bool (KT k n))/\w=f:=by
 have c:=fun w=>PQ k w;obtain⟨h1,h2,_⟩:=HH k;rw[<-h1,<-h2] at c;have hs:(acr k:Int)*(dow k:Int)=(D2 k:Int):=(Iy _ _).symm;have h:IntKind.i64.wrap (D2 k:Int)=(D2 k:Int):=CL (by have:=VL k;omega);have d:=Fy (show KT k n=(decide (0<=n)&&decide (n<(D2 k:Int))) from rfl);generalize KT k n=y at *;clear h1 h2;generalize acr k=a at *;generalize dow k=b at *
 generalize D2 k=m at *;cases t0:decide (0<=n)
 ·rw[t0] at d
  go_enter func120,ntmps120
  go_wp2_with (with_reducible refine(c _).mono ?_;rintro e g ⟨rfl,rfl⟩)
  go_ret
  exact⟨AH (by rw[d.out];rfl),rfl⟩
 ·rw[t0] at d
  go_enter func120,ntmps120
  go_wp2_with (with_reducible refine(c _).mono ?_;rintro e g ⟨rfl,rfl⟩)
  go_ret
  exact⟨AH (by rw[d.out];rfl),rfl⟩
theorem XB (c m:Nat)(v:Int)(w:A5)(hc:c<=1000)(hm:m<=1000):A9 prog 121 #[.int .i64 (c:Int),.int .i64 (m:Int),.int .i64 v] w fun e b=>e=.returned (.bool (F2 c m v))/\w=b:=by
 have a:=Fy (show F2 c m v=(decide (-32<=v/\v<=31)&&decide (0<=32*(c:Int)+v/\32*(c:Int)+v+30<=32*(m:Int)-2)) from rfl);generalize F2 c m v=y at *;by_cases h1:v < -32
 ·have t1:decide (v < -32)=true:=Io h1;rw[Il (show ¬ (-32<=v/\v<=31) by omega)] at a
  go_enter func121,ntmps121
  go_wp2
  go_ret
  exact⟨AH (by rw[a.out];rfl),rfl⟩
 have t1:decide (v < -32)=false:=Il h1;by_cases h2:31<v
 ·have t2:decide (31<v)=true:=Io h2;rw[Il (show ¬ (-32<=v/\v<=31) by omega)] at a
  go_enter func121,ntmps121
  go_wp2
  go_ret
  exact⟨AH (by rw[a.out];rfl),rfl⟩
 have t2:decide (31<v)=false:=Il h2;rw[Io (show -32<=v/\v<=31 by omega)] at a;by_cases h3:0<=32*(c:Int)+v
 ·have t3:decide (0<=32*(c:Int)+v)=true:=Io h3;have hr:decide (0<=32*(c:Int)+v/\32*(c:Int)+v+30<=32*(m:Int)-2)=decide (32*(c:Int)+v+30<=2*(16*(m:Int)-1)):=by
   by_cases h:32*(c:Int)+v+30<=2*(16*(m:Int)-1)
   ·rw[Io h,Io];omega
   ·rw[Il h,Il];omega
  rw[hr] at a;clear hr
  go_enter func121,ntmps121
  go_wp2
  go_ret
  exact⟨AH (by rw[a.out];rfl),rfl⟩
 ·have t3:decide (0<=32*(c:Int)+v)=false:=Il h3;rw[Il (show ¬ (0<=32*(c:Int)+v/\32*(c:Int)+v+30<=32*(m:Int)-2) by omega)] at a
  go_enter func121,ntmps121
  go_wp2
  go_ret
  exact⟨AH (by rw[a.out];rfl),rfl⟩
theorem WS {k:Int}{n:Nat}(h:n<D2 k):(n:Int).tmod (acr k:Int)=((n%acr k:Nat):Int)/\(n:Int).tdiv (acr k:Int)=((n / acr k:Nat):Int)/\IntKind.i64.wrap ((n / acr k:Nat):Int)=((n / acr k:Nat):Int)/\((acr k:Int)==0)=false/\n%acr k<acr k/\n / acr k<dow k/\acr k<=88/\dow k<=72:=by
 obtain⟨a,h1,h2⟩:=dH h;obtain⟨-,-,-,-,h3,h4⟩:=HH k;refine⟨by rw[Iu (by omega)];rfl,by rw[It (by omega)];rfl,Ug (by omega),by simp;omega,h1,h2,h3,h4⟩
set_option maxRecDepth 100000 in
theorem Zm (k n a b:Int)(w:A5):A9 prog 84 #[.int .i64 k,.int .i64 n,.agg (BN a b)] w fun e H=>e=.returned (.bool (GJ k n a b))/\Below w.heap.size w H:=by
 have c1:=fun w=>pW k n w;have c2:=fun w=>PQ k w;obtain⟨t,z,-⟩:=HH k;rw[<-t,<-z] at c2;clear t z;have g:=Fy (show GJ k n a b=(KT k n&&(F2 (n.toNat%acr k) (acr k) a&&F2 (n.toNat / acr k) (dow k) b)) from rfl);generalize GJ k n a b=y at *;obtain⟨B,l⟩:=Aj w.heap.size;obtain⟨d,f⟩:=Aj (w.alloc (.cells (BN a b) 73 (0,0)))
 have C:d.heap[B]? =some (.cells (BN a b) 73 (0,0)):=by rw[<-f,<-l];exact heap_alloc_new w _
 have I:d.heap.size=B+1:=by rw[<-f,<-l];simp
 have p:=Fy (fun(x:A5) (c:Below (B+1) d x)=>HQ ((c.block B (by omega)).trans C));have E:Below w.heap.size w d:=by rw[<-f];exact(Ea _ w).alloc (Ba _) _
 have r:=Fy (fun(x:A5) (c:Below (B+1) d x)=>(E.trans (c.mono (by omega)):Below w.heap.size w x));unfold BN at *;have i:=Fy f;have F:=Fy l;clear C I E f l;cases hc:KT k n with
 |false=>
  rw[hc] at c1 g;clear hc
  go_enter func84,ntmps84
  go_wp2_with (first|(with_reducible refine(c1 _).mono ?_;rintro e j ⟨rfl,rfl⟩)|(with_reducible refine(c2 _).mono ?_;rintro e j ⟨rfl,rfl⟩))
  go_ret
  exact⟨AH (by rw[g.out];rfl),by rw[i.out];exact r.out _ (Ea _ _)⟩
 |true=>
  rw[hc] at c1 g;obtain⟨J,s⟩:=S8.1 hc;obtain⟨q,rfl⟩:∃q:Nat,n=(q:Int):=⟨n.toNat,by omega⟩;rw[Is] at g s;obtain⟨r1,r2,r3,L,M,N,O,P⟩:=WS s;have o:=Fy (fun x (c:Below (B+1) d x)=>(XB (q%acr k) (acr k) a x (by omega) (by omega)).mono fun e y h=>(⟨h.1,h.2▸c⟩:e=.returned (.bool (F2 (q%acr k) (acr k) a))/\Below (B+1) d y))
  have K:=Fy (fun x (c:Below (B+1) d x)=>(XB (q / acr k) (dow k) b x (by omega) (by omega)).mono fun e y h=>(⟨h.1,h.2▸c⟩:e=.returned (.bool (F2 (q / acr k) (dow k) b))/\Below (B+1) d y));clear hc s J;generalize q%acr k=u at *;generalize q / acr k=v at *;generalize acr k=A at *;generalize dow k=D at *;cases c:F2 u A a with
  |false=>
   rw[c] at o g
   go_enter func84,ntmps84
   go_wp2_with (first|(with_reducible refine(c1 _).mono ?_;rintro e j ⟨rfl,rfl⟩)|(with_reducible refine(c2 _).mono ?_;rintro e j ⟨rfl,rfl⟩))
   rw[i.out,F.out];refine BY (S:=fun x=>Below (B+1) d x) 17 (by kernel_rfl) (by kernel_rfl) (Ea _ _).drew ?_;simp only[Im,Bi,In,Iq];refine AP (v:=?vp0) (by kernel_rfl) ?m ?_;(case m=>(intro x _;go_simp;try with_reducible rfl));simp only[A1]
   refine AP (v:=?vp1) (by kernel_rfl) ?m ?_;(case m=>(intro x _;go_simp;try with_reducible rfl));simp only[A1];refine AP (v:=?vp2) (by kernel_rfl) ?m ?_;(case m=>(intro x _;go_simp;rw[Bb (by omega)]));simp only[A1];refine AP (v:=?vp3) (by kernel_rfl) ?m ?_;(case m=>(intro x _;go_simp;try with_reducible rfl));simp only[A1]
   refine AP (v:=?vp4) (by kernel_rfl) ?m ?_;(case m=>(intro x _;go_simp;try with_reducible rfl));simp only[A1];refine AN 3 _ ⟨B,0,none⟩ (.int .i64 a) (by kernel_rfl) rfl rfl (fun x c=>by have G:=(p.out x c).1;go_simp) ?_;simp only[A1];refine AS (by kernel_rfl) o.out (fun _=>by kernel_rfl) ?_;simp only[A1]
   refine AP (v:=?vp7) (by kernel_rfl) ?m ?_;(case m=>(intro x _;go_simp;try with_reducible rfl));simp only[A1];refine EA (by kernel_rfl) ?_;simp only[A1];refine EA (by kernel_rfl) ?_;simp only[A1];refine EA (by kernel_rfl) ?_;simp only[A1];refine EA (by kernel_rfl) ?_;simp only[A1];refine EA (by kernel_rfl) ?_;simp only[A1];refine EA (by kernel_rfl) ?_;simp only[A1]
   refine EA (by kernel_rfl) ?_;simp only[A1];refine AP (v:=?vp15) (by kernel_rfl) ?m ?_;(case m=>(intro x _;go_simp;try with_reducible rfl));simp only[A1];refine AP (v:=?vp16) (by kernel_rfl) ?m ?_;(case m=>(intro x _;go_simp;try with_reducible rfl));simp only[A1];refine BV fun x c=>?_
   go_wp2
   go_ret
   exact⟨AH (by rw[g.out];rfl),r.out _ c⟩
  |true=>
   rw[c] at o g
   go_enter func84,ntmps84
   go_wp2_with (first|(with_reducible refine(c1 _).mono ?_;rintro e j ⟨rfl,rfl⟩)|(with_reducible refine(c2 _).mono ?_;rintro e j ⟨rfl,rfl⟩))
   rw[i.out,F.out];refine BY (S:=fun x=>Below (B+1) d x) 17 (by kernel_rfl) (by kernel_rfl) (Ea _ _).drew ?_;simp only[Im,Bi,In,Iq];refine AP (v:=?vq0) (by kernel_rfl) ?m ?_;(case m=>(intro x _;go_simp;try with_reducible rfl));simp only[A1]
   refine AP (v:=?vq1) (by kernel_rfl) ?m ?_;(case m=>(intro x _;go_simp;try with_reducible rfl));simp only[A1];refine AP (v:=?vq2) (by kernel_rfl) ?m ?_;(case m=>(intro x _;go_simp;rw[Bb (by omega)]));simp only[A1];refine AP (v:=?vq3) (by kernel_rfl) ?m ?_;(case m=>(intro x _;go_simp;try with_reducible rfl));simp only[A1]
   refine AP (v:=?vq4) (by kernel_rfl) ?m ?_;(case m=>(intro x _;go_simp;try with_reducible rfl));simp only[A1];refine AN 3 _ ⟨B,0,none⟩ (.int .i64 a) (by kernel_rfl) rfl rfl (fun x c=>by have G:=(p.out x c).1;go_simp) ?_;simp only[A1];refine AS (by kernel_rfl) o.out (fun _=>by kernel_rfl) ?_;simp only[A1]
   refine AP (v:=?vq7) (by kernel_rfl) ?m ?_;(case m=>(intro x _;go_simp;try with_reducible rfl));simp only[A1];refine AP (v:=?vq8) (by kernel_rfl) ?m ?_;(case m=>(intro x _;go_simp;try with_reducible rfl));simp only[A1];refine AP (v:=?vq9) (by kernel_rfl) ?m ?_;(case m=>(intro x _;go_simp;try with_reducible rfl));simp only[A1]
   refine AP (v:=?vq10) (by kernel_rfl) ?m ?_;(case m=>(intro x _;go_simp;rw[Bb (by omega)]));simp only[A1];refine AP (v:=?vq11) (by kernel_rfl) ?m ?_;(case m=>(intro x _;go_simp;try with_reducible rfl));simp only[A1];refine AP (v:=?vq12) (by kernel_rfl) ?m ?_;(case m=>(intro x _;go_simp;try with_reducible rfl));simp only[A1]
   refine AN 3 _ ⟨B,1,none⟩ (.int .i64 b) (by kernel_rfl) rfl rfl (fun x c=>by have G:=(p.out x c).2;go_simp) ?_;simp only[A1];refine AS (by kernel_rfl) K.out (fun _=>by kernel_rfl) ?_;simp only[A1];refine AP (v:=?vq15) (by kernel_rfl) ?m ?_;(case m=>(intro x _;go_simp;try with_reducible rfl));simp only[A1]
   refine AP (v:=?vq16) (by kernel_rfl) ?m ?_;(case m=>(intro x _;go_simp;try with_reducible rfl));simp only[A1];refine BV fun x c=>?_
   go_wp2
   go_ret
   exact⟨AH (by rw[g.out];rfl),r.out _ c⟩
def KH (s h:Int):Bool:=decide (0<=s)&&decide ((s+30) / 2+(s+30)%2<h)
theorem bN {c m:Nat}{v:Int}(h1:-32<=v)(h2:v<=31):F2 c m v=KH (32*(c:Int)+v) (16*(m:Int)):=by
 unfold F2 KH;rw[Io (show -32<=v/\v<=31 from⟨h1,h2⟩),Gr,<-Bool.decide_and];by_cases h:0<=32*(c:Int)+v/\32*(c:Int)+v+30<=32*(m:Int)-2
 ·rw[Io h,Io];omega
 ·rw[Il h,Il];omega
theorem ZW (s h:Int)(w:A5)(h1:-100<=s)(h2:s<=100000):A9 prog 87 #[.int .i64 s,.int .i64 h] w fun e c=>e=.returned (.bool (KH s h))/\w=c:=by
 have a:=Fy (show KH s h=(decide (0<=s)&&decide ((s+30) / 2+(s+30)%2<h)) from rfl);generalize KH s h=y at *;by_cases b:0<=s
 ·have t0:decide (0<=s)=true:=Io b;rw[t0] at a;have d:(s+30).tdiv 2=(s+30) / 2:=It (by omega);have f:(s+30).tmod 2=(s+30)%2:=Iu (by omega);have g:IntKind.i64.wrap ((s+30) / 2)=(s+30) / 2:=CL (by omega);have i:0<=(s+30) / 2/\(s+30) / 2<=100000:=by omega
  have j:0<=(s+30)%2/\(s+30)%2<=1:=by omega
  generalize (s+30) / 2=u at *;generalize (s+30)%2=v at *;clear b
  go_enter func87,ntmps87
  go_wp2
  go_ret
  exact⟨AH (by rw[a.out];rfl),rfl⟩
 ·have t0:decide (0<=s)=false:=Il b;rw[t0] at a;clear b
  go_enter func87,ntmps87
  go_wp2
  go_ret
  exact⟨AH (by rw[a.out];rfl),rfl⟩
set_option maxRecDepth 100000 in
theorem vD (k n a b:Int)(w:A5):A9 prog 53 #[.int .i64 k,.int .i64 n,.agg (BN a b)] w fun e w'=>e=.returned (.bool (GJ k n a b))/\Below w.heap.size w w':=by
 have f:=Fy (show GJ k n a b=(KT k n&&(F2 (n.toNat%acr k) (acr k) a&&F2 (n.toNat / acr k) (dow k) b)) from rfl);generalize GJ k n a b=y at *;obtain⟨B,F⟩:=Aj w.heap.size;obtain⟨d,g⟩:=Aj (w.alloc (.cells (BN a b) 73 (0,0)));have V:d.heap[B]? =some (.cells (BN a b) 73 (0,0)):=by rw[<-g,<-F];exact heap_alloc_new w _
 have hz:d.heap.size=B+1:=by rw[<-g,<-F];simp
 have K:∀(x y:A5),Below (B+1) d x->Below x.heap.size x y->Below (B+1) d y:=fun x y c hy=>c.trans (hy.mono (by have:=c.size;omega));have G:=Fy (fun(x:A5) (c:Below (B+1) d x)=>HQ ((c.block B (by omega)).trans V));have j:Below w.heap.size w d:=by rw[<-g];exact(Ea _ w).alloc (Ba _) _
 have o:=Fy (fun(x:A5) (c:Below (B+1) d x)=>(j.trans (c.mono (by omega)):Below w.heap.size w x));have X:=Fy (fun(x:A5) (c:Below (B+1) d x)=>((X2 k x).mono fun e y h=>⟨h.1,K x y c h.2⟩:A9 prog 85 #[.int .i64 k] x fun e y=>e=.returned (.int .i64 (D2 k:Int))/\Below (B+1) d y))
 have Y:=Fy (fun(x:A5) (c:Below (B+1) d x)=>((Uh k x).mono fun e y h=>⟨h.1,K x y c h.2⟩:A9 prog 65 #[.int .i64 k] x fun e y=>e=.returned (.int .i64 (acr k:Int))/\Below (B+1) d y));have I:=Fy (fun(x:A5) (c:Below (B+1) d x)=>((O2 k x).mono fun e y h=>⟨h.1,K x y c h.2⟩:A9 prog 49 #[.int .i64 k] x fun e y=>e=.returned (.agg (JH k))/\Below (B+1) d y))
 unfold BN at *;have r:=Fy g;have ac:=Fy F;have s:Below (B+1) d d:=Ea _ _;clear V hz j g F K;cases hc:KT k n with
 |false=>
  rw[hc] at f;by_cases N:n<0
  ·have t0:decide (n<0)=true:=Io N;clear hc N
   go_enter func53,ntmps53
   go_wp2
   rw[r.out]
   go_ret
   exact⟨AH (by rw[f.out];rfl),o.out _ s⟩
  ·have t0:decide (n<0)=false:=Il N;have t1:decide ((D2 k:Int)<=n)=true:=Io (by
    have:¬ (0<=n/\n.toNat<D2 k):=fun h=>by rw[S8.2 h] at hc;cases hc
    omega)
   generalize D2 k=M at *;clear hc N
   go_enter func53,ntmps53
   go_wp2_with fail
   rw[r.out];refine(X.out _ s).mono ?_;rintro e x ⟨rfl,c⟩
   go_wp2
   go_ret
   exact⟨AH (by rw[f.out];rfl),o.out _ c⟩
 |true=>
  rw[hc] at f;obtain⟨q0,O⟩:=S8.1 hc;obtain⟨q,rfl⟩:∃q:Nat,n=(q:Int):=⟨n.toNat,by omega⟩;rw[Is] at f O;obtain⟨r1,r2,r3,z0,m1,m2,m3,m4⟩:=WS O;have t0:decide ((q:Int)<0)=false:=Il (by omega);have t1:decide (D2 k<=q)=false:=Il (by omega);clear hc O q0;generalize q%acr k=u at *;generalize q / acr k=v at *
  have t:=Fy (fun(x:A5) (c:Below (B+1) d x) (h1:-32<=a) (h2:a<=31)=>(ZW (32*(u:Int)+a) (CU k) x (by omega) (by omega)).mono fun e y h=>(⟨h.1,h.2▸c⟩:e=.returned (.bool (KH (32*(u:Int)+a) (CU k)))/\Below (B+1) d y))
  have P:=Fy (fun(x:A5) (c:Below (B+1) d x) (h1:-32<=b) (h2:b<=31)=>(ZW (32*(v:Int)+b) (D4 k) x (by omega) (by omega)).mono fun e y h=>(⟨h.1,h.2▸c⟩:e=.returned (.bool (KH (32*(v:Int)+b) (D4 k)))/\Below (B+1) d y));have Z:=Fy (fun(h1:-32<=a) (h2:a<=31)=>(by rw[(HH k).2.2.1];exact bN h1 h2:F2 u (acr k) a=KH (32*(u:Int)+a) (CU k)))
  have aa:=Fy (fun(h1:-32<=b) (h2:b<=31)=>(by rw[(HH k).2.2.2.1];exact bN h1 h2:F2 v (dow k) b=KH (32*(v:Int)+b) (D4 k)));have Q:=Fy (fun(h:¬ (-32<=a/\a<=31))=>(by unfold F2;rw[Il h];rfl:F2 u (acr k) a=false));have T:=Fy (fun(h:¬ (-32<=b/\b<=31))=>(by unfold F2;rw[Il h];rfl:F2 v (dow k) b=false));have ad:=fun w=>(Pv (CU k) (D4 k) (BJ k) (BP k) w).1
  have ae:=fun w=>(Pv (CU k) (D4 k) (BJ k) (BP k) w).2;unfold JH at I;generalize F2 u (acr k) a=ab at *;generalize F2 v (dow k) b=ag at *;generalize D2 k=M at *;generalize acr k=A at *;generalize dow k=D at *;generalize CU k=W at *;generalize D4 k=H at *;generalize BJ k=R at *;generalize BP k=L at *
  go_enter func53,ntmps53
  go_wp2_with fail
  rw[r.out,ac.out];refine(X.out _ s).mono ?_;rintro e x ⟨rfl,c⟩
  go_wp2_with fail
  refine(Y.out _ c).mono ?_;rintro e x2 ⟨rfl,C⟩
  go_wp2_with fail
  refine(Y.out _ C).mono ?_;rintro e x3 ⟨rfl,E⟩;clear c C
  go_wp2
  go_loopw [9] (fun z wr=>∃i:Nat,i<=2/\z=.int .i64 i/\Below (B+1) d wr/\(0<i->-32<=a/\a<=31)/\(1<i->-32<=b/\b<=31)) (fun z _=>2-(RowKit.intOf z).toNat)
  case atStart=>exact⟨0,by omega,rfl,E,by omega,by omega⟩
  case round=>
   clear E;obtain⟨i,af,rfl,c,p,j⟩:=hrel;have U:i=0\/i=1\/i=2:=by omega
   obtain⟨l0,l1⟩:=G.out _ c;rcases U with rfl|rfl|rfl
   case _=>
    by_cases h1:a < -32
    ·have t2:decide (a < -32)=true:=Io h1;have l:=Q.out (by omega);clear h1 p j
     go_wp2
     go_ret
     exact⟨AH (by rw[f.out,l];rfl),o.out _ c⟩
    have t2:decide (a < -32)=false:=Il h1;by_cases h2:31<a
    ·have t3:decide (31<a)=true:=Io h2;have l:=Q.out (by omega);clear h1 h2 p j
     go_wp2
     go_ret
     exact⟨AH (by rw[f.out,l];rfl),o.out _ c⟩
    have t3:decide (31<a)=false:=Il h2;have hr:-32<=a/\a<=31:=by omega
    clear h1 h2 p j
    go_wp2
    go_roundw
    case rel=>exact⟨1,by omega,by go_num,c,fun _=>hr,by omega⟩
    case measure=>simp[RowKit.intOf]
   case _=>
    replace p:=p (by omega)
    by_cases h1:b < -32
    ·have t2:decide (b < -32)=true:=Io h1;have l:=T.out (by omega);clear h1 j
     go_wp2
     go_ret
     exact⟨AH (by rw[f.out,l];cases ab <;> rfl),o.out _ c⟩
    have t2:decide (b < -32)=false:=Il h1;by_cases h2:31<b
    ·have t3:decide (31<b)=true:=Io h2;have l:=T.out (by omega);clear h1 h2 j
     go_wp2
     go_ret
     exact⟨AH (by rw[f.out,l];cases ab <;> rfl),o.out _ c⟩
    have t3:decide (31<b)=false:=Il h2;have hr:-32<=b/\b<=31:=by omega
    clear h1 h2 j
    go_wp2
    go_roundw
    case rel=>exact⟨2,by omega,by go_num,c,fun _=>p,fun _=>hr⟩
    case measure=>simp[RowKit.intOf]
   case _=>
    obtain⟨a1,a2⟩:=p (by omega);obtain⟨b1,b2⟩:=j (by omega);have l:=Z.out a1 a2;have e2:=aa.out b1 b2;rw[l,e2] at f
    replace t:=Fy (fun(x:A5) (c:Below (B+1) d x)=>t.out x c a1 a2)
    replace P:=Fy (fun(x:A5) (c:Below (B+1) d x)=>P.out x c b1 b2)
    clear p j l e2 Z aa Q T l0 l1;have w1:IntKind.i64.wrap (32*(u:Int))=32*(u:Int):=CL (by omega);have w2:IntKind.i64.wrap (32*(u:Int)+a)=32*(u:Int)+a:=CL (by omega);have w3:IntKind.i64.wrap (32*(v:Int))=32*(v:Int):=CL (by omega);have w4:IntKind.i64.wrap (32*(v:Int)+b)=32*(v:Int)+b:=CL (by omega);cases hi:KH (32*(u:Int)+a) W with
    |false=>
     rw[hi] at t f
     go_wp2
     refine BY (S:=fun x=>Below (B+1) d x) 21 (by kernel_rfl) (by kernel_rfl) c.drew ?_;simp only[Im,Bi,In,Iq];refine AP (v:=?vp0) (by kernel_rfl) ?m ?_;(case m=>(intro x _;go_simp;try with_reducible rfl));simp only[A1];refine AP (v:=?vp1) (by kernel_rfl) ?m ?_;(case m=>(intro x _;go_simp;try with_reducible rfl));simp only[A1]
     refine AP (v:=?vp2) (by kernel_rfl) ?m ?_;(case m=>(intro x _;go_simp;try with_reducible rfl));simp only[A1];refine AN 3 _ ⟨B,0,none⟩ (.int .i64 a) (by kernel_rfl) rfl rfl (fun x c=>by have c0:=(G.out x c).1;go_simp) ?_;simp only[A1];refine AP (v:=?vp4) (by kernel_rfl) ?m ?_;(case m=>(intro x _;go_simp;try with_reducible rfl));simp only[A1]
     refine AP (v:=?vp5) (by kernel_rfl) ?m ?_;(case m=>(intro x _;go_simp;try with_reducible rfl));simp only[A1];refine AS (by kernel_rfl) I.out (fun _=>by kernel_rfl) ?_;simp only[A1];refine AP (v:=?vp7) (by kernel_rfl) ?m ?_;(case m=>(intro x _;go_simp;try with_reducible rfl));simp only[A1];refine AS (by kernel_rfl) t.out (fun _=>by kernel_rfl) ?_;simp only[A1]
     refine AP (v:=?vp9) (by kernel_rfl) ?m ?_;(case m=>(intro x _;go_simp;try with_reducible rfl));simp only[A1];refine EA (by kernel_rfl) ?_;simp only[A1];refine EA (by kernel_rfl) ?_;simp only[A1];refine EA (by kernel_rfl) ?_;simp only[A1];refine EA (by kernel_rfl) ?_;simp only[A1];refine EA (by kernel_rfl) ?_;simp only[A1];refine EA (by kernel_rfl) ?_;simp only[A1]
     refine EA (by kernel_rfl) ?_;simp only[A1];refine EA (by kernel_rfl) ?_;simp only[A1];refine EA (by kernel_rfl) ?_;simp only[A1];refine AP (v:=?vp19) (by kernel_rfl) ?m ?_;(case m=>(intro x _;go_simp;try with_reducible rfl));simp only[A1];refine AP (v:=?vp20) (by kernel_rfl) ?m ?_;(case m=>(intro x _;go_simp;try with_reducible rfl));simp only[A1];refine BV fun x c=>?_
     go_wp2
     go_ret
     exact⟨AH (by rw[f.out];rfl),o.out _ c⟩
    |true=>
     rw[hi] at t f;generalize KH (32*(v:Int)+b) H=J at *
     go_wp2
     refine BY (S:=fun x=>Below (B+1) d x) 21 (by kernel_rfl) (by kernel_rfl) c.drew ?_;simp only[Im,Bi,In,Iq];refine AP (v:=?vq0) (by kernel_rfl) ?m ?_;(case m=>(intro x _;go_simp;try with_reducible rfl));simp only[A1];refine AP (v:=?vq1) (by kernel_rfl) ?m ?_;(case m=>(intro x _;go_simp;try with_reducible rfl));simp only[A1]
     refine AP (v:=?vq2) (by kernel_rfl) ?m ?_;(case m=>(intro x _;go_simp;try with_reducible rfl));simp only[A1];refine AN 3 _ ⟨B,0,none⟩ (.int .i64 a) (by kernel_rfl) rfl rfl (fun x c=>by have c0:=(G.out x c).1;go_simp) ?_;simp only[A1];refine AP (v:=?vq4) (by kernel_rfl) ?m ?_;(case m=>(intro x _;go_simp;try with_reducible rfl));simp only[A1]
     refine AP (v:=?vq5) (by kernel_rfl) ?m ?_;(case m=>(intro x _;go_simp;try with_reducible rfl));simp only[A1];refine AS (by kernel_rfl) I.out (fun _=>by kernel_rfl) ?_;simp only[A1];refine AP (v:=?vq7) (by kernel_rfl) ?m ?_;(case m=>(intro x _;go_simp;try with_reducible rfl));simp only[A1];refine AS (by kernel_rfl) t.out (fun _=>by kernel_rfl) ?_;simp only[A1]
     refine AP (v:=?vq9) (by kernel_rfl) ?m ?_;(case m=>(intro x _;go_simp;try with_reducible rfl));simp only[A1];refine AP (v:=?vq10) (by kernel_rfl) ?m ?_;(case m=>(intro x _;go_simp;try with_reducible rfl));simp only[A1];refine AP (v:=?vq11) (by kernel_rfl) ?m ?_;(case m=>(intro x _;go_simp;try with_reducible rfl));simp only[A1]
     refine AP (v:=?vq12) (by kernel_rfl) ?m ?_;(case m=>(intro x _;go_simp;try with_reducible rfl));simp only[A1];refine AN 3 _ ⟨B,1,none⟩ (.int .i64 b) (by kernel_rfl) rfl rfl (fun x c=>by have c0:=(G.out x c).2;go_simp) ?_;simp only[A1];refine AP (v:=?vq14) (by kernel_rfl) ?m ?_;(case m=>(intro x _;go_simp;try with_reducible rfl));simp only[A1]
     refine AP (v:=?vq15) (by kernel_rfl) ?m ?_;(case m=>(intro x _;go_simp;try with_reducible rfl));simp only[A1];refine AS (by kernel_rfl) I.out (fun _=>by kernel_rfl) ?_;simp only[A1];refine AP (v:=?vq17) (by kernel_rfl) ?m ?_;(case m=>(intro x _;go_simp;try with_reducible rfl));simp only[A1];refine AS (by kernel_rfl) P.out (fun _=>by kernel_rfl) ?_;simp only[A1]
     refine AP (v:=?vq19) (by kernel_rfl) ?m ?_;(case m=>(intro x _;go_simp;try with_reducible rfl));simp only[A1];refine AP (v:=?vq20) (by kernel_rfl) ?m ?_;(case m=>(intro x _;go_simp;try with_reducible rfl));simp only[A1];refine BV fun x c=>?_
     go_wp2
     go_ret
     exact⟨AH (by rw[f.out];rfl),o.out _ c⟩
theorem Rp (w:A5)(a:Obj):(w.alloc a).heap[w.heap.size]? =some a:=heap_alloc_new w a
theorem Yv (p:Option Aa)(n cap:Nat)(A c q:Int)(w:A5)(h:c<0\/A<=c):A9 prog 100 #[.slice p n cap,.int .i64 A,.int .i64 c,.int .i64 q] w (KV (0,0) w):=by
 by_cases a:c<0
 ·have t0:decide (c<0)=true:=Io a;clear h a
  go_enter func100,ntmps100
  go_wp2
  refine H5 (H6 rfl _ _ w.heap.size 73 _ (0,0) _ rfl (Rp w _) Gq rfl (by kernel_rfl)) rfl ?_;exact⟨rfl,(Ea _ w).alloc (Ba _) _⟩
 ·have t0:decide (c<0)=false:=Il a;have t1:decide (A<=c)=true:=Io (by omega);clear h a
  go_enter func100,ntmps100
  go_wp2
  refine H5 (H6 rfl _ _ w.heap.size 73 _ (0,0) _ rfl (Rp w _) Gq rfl (by kernel_rfl)) rfl ?_;exact⟨rfl,(Ea _ w).alloc (Ba _) _⟩
theorem RV (f:Nat->Int×Int)(p:Option Aa)(n cap:Nat)(A c q:Int)(i:Nat)(w:A5)(d:IX w p n f)(hn:n<=maxLen)(k:0<=c)(h1:c<A)(h:0<=q)(hi:q*A+c=(i:Int))(a:i<n):
  A9 prog 100 #[.slice p n cap,.int .i64 A,.int .i64 c,.int .i64 q] w (KV (f i) w):=by
 unfold maxLen at hn;have t0:decide (c<0)=false:=Il (by omega);have t1:decide (A<=c)=false:=Il (by omega);obtain⟨P,e⟩:=Aj (q*A);have j:0<=P:=by rw[<-e];exact Iz h (by omega)
 rw[e] at hi;obtain⟨b,o,rfl,hr⟩:=XD d (by omega);obtain⟨l,c1⟩:=hr (w.alloc (.cells #[.int .i64 0,.int .i64 0] 73 (0,0))) ((Ea _ w).alloc (Ba _) _) i a;have g:(i:Int)<(n:Int):=by omega
 have m:IntKind.i64.wrap P=P:=CL (by omega);clear d hr;generalize f i=y at *
 go_enter func100,ntmps100
 go_wp2
 refine H5 (H6 rfl _ _ w.heap.size 73 _ (0,0) _ rfl (Rp w _) Gq rfl (by kernel_rfl)) rfl ?_;exact⟨rfl,(Ea _ w).alloc (Ba _) _⟩
theorem W8 (n A:Nat):(((n / A:Nat):Int)-1)*(A:Int)+((n%A:Nat):Int)=(n:Int)-(A:Int):=by
 have h2:((A:Int)*((n / A:Nat):Int)+((n%A:Nat):Int))=(n:Int):=by exact_mod_cast Ix n A
 rw[Int.sub_mul,Int.one_mul,Int.mul_comm];omega
theorem rN (f:Nat->Int×Int)(p:Option Aa)(n cap A:Nat)(x:A5)(b:IX x p n f)(hn:n<=maxLen)(h1:1<=A):
  A9 prog 100 #[.slice p n cap,.int .i64 (A:Int),.int .i64 (((n%A:Nat):Int)-1),.int .i64 ((n / A:Nat):Int)] x (KV (FQ f n A) x):=by
 obtain⟨-,-,c,a,-,-⟩:=P7 (n:=n) h1;unfold FQ;by_cases h:0<n%A
 ·rw[Bc h];have h2:((A:Int)*((n / A:Nat):Int)+((n%A:Nat):Int))=(n:Int):=by exact_mod_cast Ix n A
  rw[Int.mul_comm] at h2;exact RV f p n cap _ _ _ (n-1) x b hn (by omega) (by omega) (Int.natCast_nonneg _) (by have:=a h;omega) (by have:=a h;omega)
 ·rw[Bb h];exact Yv p n cap _ _ _ x (by omega)
theorem zA (f:Nat->Int×Int)(p:Option Aa)(n cap A:Nat)(x:A5)(a:IX x p n f)(hn:n<=maxLen)(h1:1<=A)(h:0<n / A):
  A9 prog 100 #[.slice p n cap,.int .i64 (A:Int),.int .i64 ((n%A:Nat):Int),.int .i64 (((n / A:Nat):Int)-1)] x (KV (f (n-A)) x):=by
 obtain⟨-,-,c,d,b,-⟩:=P7 (n:=n) h1;have h2:=W8 n A;have h3:=b h;exact RV f p n cap _ _ _ (n-A) x a hn (by omega) (by omega) (by omega) (by omega) (by omega)
theorem yV (f:Nat->Int×Int)(p:Option Aa)(n cap A:Nat)(x:A5)(b:IX x p n f)(hn:n<=maxLen)(h1:1<=A)(h:0<n / A):
  A9 prog 100 #[.slice p n cap,.int .i64 (A:Int),.int .i64 (((n%A:Nat):Int)+1),.int .i64 (((n / A:Nat):Int)-1)] x (KV (if n%A<A-1 then f (n-A+1) else (0,0)) x):=by
 obtain⟨-,-,d,e,c,-⟩:=P7 (n:=n) h1;have h2:=W8 n A;have h3:=c h;by_cases a:n%A<A-1
 ·rw[Bc a];exact RV f p n cap _ _ _ (n-A+1) x b hn (by omega) (by omega) (by omega) (by omega) (by omega)
 ·rw[Bb a];exact Yv p n cap _ _ _ x (by omega)
theorem mW (f:Nat->Int×Int)(p:Option Aa)(n cap:Nat)(a first:Int)(w:A5)(ha:IX w p n f)(hn:n<=maxLen)(hA:a<=9223372036854775807):
  A9 prog 69 #[.slice p n cap,.int .i64 a,.int .i64 first] w (KV (KU f n a first) w):=by
 have aa:=Fy (show KU f n a first=if a<1 then (0,0) else (GD (FQ f n a.toNat).1 (JS f n a.toNat first).1 (JD f n a.toNat first).1,GD (FQ f n a.toNat).2 (JS f n a.toNat first).2 (JD f n a.toNat first).2) from rfl);generalize KU f n a first=M at *
 by_cases h1:a<1
 ·have t0:decide (a<1)=true:=Io h1;rw[Bc h1] at aa;clear ha hn hA h1
  go_enter func69,ntmps69
  go_wp2
  refine H5 (H6 rfl _ _ w.heap.size 73 _ (0,0) _ rfl (Rp w _) Gq rfl (by kernel_rfl)) rfl ?_;exact⟨by rw[aa.out];rfl,(Ea _ w).alloc (Ba _) _⟩
 have t0:decide (a<1)=false:=Il h1;rw[Bb h1] at aa;obtain⟨A,rfl⟩:∃A:Nat,a=(A:Int):=⟨a.toNat,by omega⟩;rw[Is] at aa;have ab:1<=A:=by omega
 obtain⟨r,m2,m3,m4,m5,m6⟩:=P7 (n:=n) ab;have z0:((A:Int)==0)=false:=by simp;omega
 have e1:(n:Int)%(A:Int)=((n%A:Nat):Int):=rfl;have e2:(n:Int) / (A:Int)=((n / A:Nat):Int):=rfl;have av:=hn;unfold maxLen at av;have wd:IntKind.i64.wrap ((n / A:Nat):Int)=((n / A:Nat):Int):=Ug (by omega);have W:=Fy (show JS f n A first=if upV n A first then f (n-A) else FQ f n A from rfl)
 have X:=Fy (show JD f n A first=if upV n A first then (if n%A<A-1 then f (n-A+1) else (0,0)) else FQ f n A from rfl);have P:upV n A first=(decide (0<n / A)&&decide (first<((n / A:Nat):Int))):=rfl
 have af:=Fy (fun x (b:Below w.heap.size w x)=>rN f p n cap A x (ha.mono b) hn ab);have al:=fun x (b:Below w.heap.size w x)=>zA f p n cap A x (ha.mono b) hn ab;have am:=fun x (b:Below w.heap.size w x)=>yV f p n cap A x (ha.mono b) hn ab;generalize FQ f n A=L at *;generalize JS f n A first=U at *
 generalize JD f n A first=R at *
 generalize upV n A first=up at *
 generalize f (n-A)=ay at *;generalize (if n%A<A-1 then f (n-A+1) else (0,0))=az at *;generalize n%A=c at *;generalize n / A=q at *;obtain⟨B,hB⟩:=Aj w.heap.size;obtain⟨wA,Y⟩:=Aj (w.alloc zerO);have aj:wA.heap[B]? =some zerO:=by rw[<-Y,<-hB];exact heap_alloc_new w _
 have aw:wA.heap.size=B+1:=by rw[<-Y,<-hB];simp
 have ac:Below B w wA:=by rw[<-Y,<-hB];exact(Ea _ w).alloc (Ba _) _
 have ak:=Fy hB;have ag:=Fy Y;rw[hB] at af al am;unfold zerO at ag;have a0:(c:Int)<=9223372036854775806:=by omega
 have a1:(q:Int)<=9223372036854775807:=by omega
 clear ha hn hA h1 hB Y r m2 m3 m4 m5 m6;obtain⟨g,i⟩:=L;cases hu:up with
 |false=>
  rw[hu] at W X
  replace W:=Fy (show U=(g,i) from W.out)
  replace X:=Fy (show R=(g,i) from X.out)
  clear al am;rw[hu] at P;have hg:decide (0<q)=false\/(decide (0<q)=true/\decide (first<(q:Int))=false):=by
   cases h5:decide (0<q) with
   |false=>exact .inl rfl
   |true=>refine .inr ⟨rfl,?_⟩;rw[h5] at P;simpa using P.symm
  clear P hu;rcases hg with t1|⟨t1,t2⟩
  ·have ax:=()
   go_enter func69,ntmps69
   go_wp2_with fail
   rw[ag.out,ak.out]
   go_wp2_with fail
   refine(af.out wA ac).mono ?_;rintro e C ⟨rfl,o⟩;obtain⟨N,D⟩:=Aj C.heap.size;have an:B+1<=N:=by have:=o.size;omega
   have ad:=(o.block B (by omega)).trans aj;have ae:Below B w C:=ac.trans (o.mono (by omega));clear o aj aw ac;unfold BN;obtain⟨j,d⟩:=Aj (((C.alloc (.cells (BN g i) 73 (0,0))).alloc (.cells (BN g i) 73 (0,0))).alloc (.cells (BN g i) 73 (0,0)));have Q:Below B w j:=by rw[<-d];exact((ae.alloc (by omega) _).alloc (by simp;omega) _).alloc (by simp;omega) _
   have O:j.heap[B]? =some zerO:=by rw[<-d];exact BW (BW (BW ad))
   have V:j.heap[N]? =some (.cells (BN g i) 73 (0,0)):=by rw[<-d,<-D];exact BW (BW (heap_alloc_new C _))
   have E:j.heap[N+1]? =some (.cells (BN g i) 73 (0,0)):=by rw[<-d,<-D];exact BW (by simpa using heap_alloc_new (C.alloc _) _)
   have F:j.heap[N+1+1]? =some (.cells (BN g i) 73 (0,0)):=by rw[<-d,<-D];simpa using heap_alloc_new ((C.alloc _).alloc _) _
   have gz:j.heap.size=N+3:=by rw[<-d,<-D];simp
   have ao:=Fy D;have J:=Fy d;unfold BN at J;clear d D ad ae ag af;unfold zerO at O
   go_wp2_with fail
   rw[J.out,ao.out]
   have G:=Fy (fun(x:A5) (b:Below j.heap.size j x)=>(⟨HQ ((b.block N (by omega)).trans V),HQ ((b.block (N+1) (by omega)).trans E),HQ ((b.block (N+1+1) (by omega)).trans F)⟩:(x.cell? ⟨N,0,none⟩=some (.int .i64 g)/\x.cell? ⟨N,1,none⟩=some (.int .i64 i))/\(x.cell? ⟨N+1,0,none⟩=some (.int .i64 g)/\x.cell? ⟨N+1,1,none⟩=some (.int .i64 i))/\(x.cell? ⟨N+1+1,0,none⟩=some (.int .i64 g)/\x.cell? ⟨N+1+1,1,none⟩=some (.int .i64 i))))
   obtain⟨s,t⟩:=Aj (GD g g g);obtain⟨r,u⟩:=Aj (GD i i i);have ap:=Fy (fun(x:A5) (b:Below j.heap.size j x)=>(Pz g g g x).mono fun e y h=>(⟨h.1.trans (by rw[t]),h.2▸b⟩:e=.returned (.int .i64 s)/\Below j.heap.size j y))
   have aq:=Fy (fun(x:A5) (b:Below j.heap.size j x)=>(Pz i i i x).mono fun e y h=>(⟨h.1.trans (by rw[u]),h.2▸b⟩:e=.returned (.int .i64 r)/\Below j.heap.size j y));have Z:=Fy (show M=(s,r) by rw[aa.out,W.out,X.out,<-t,<-u]);clear t u aa W X;refine BY (S:=fun x=>Below j.heap.size j x) 15 (by kernel_rfl) (by kernel_rfl) (Ea _ _).drew ?_
   simp only[Im,Bi,In,Iq];refine AG ?_;simp only[A1];refine AN 3 _ ⟨(N),0,none⟩ (.int .i64 g) (by kernel_rfl) rfl rfl (fun x b=>by have K:=(G.out x b).1.1;go_simp) ?_;simp only[A1];refine AG ?_;simp only[A1]
   refine AN 3 _ ⟨(N+1),0,none⟩ (.int .i64 g) (by kernel_rfl) rfl rfl (fun x b=>by have K:=(G.out x b).2.1.1;go_simp) ?_;simp only[A1];refine AG ?_;simp only[A1];refine AN 3 _ ⟨(N+1+1),0,none⟩ (.int .i64 g) (by kernel_rfl) rfl rfl (fun x b=>by have K:=(G.out x b).2.2.1;go_simp) ?_;simp only[A1];refine AS (by kernel_rfl) ap.out (fun _=>by kernel_rfl) ?_;simp only[A1]
   refine AG ?_;simp only[A1];refine AN 3 _ ⟨(N),1,none⟩ (.int .i64 i) (by kernel_rfl) rfl rfl (fun x b=>by have K:=(G.out x b).1.2;go_simp) ?_;simp only[A1];refine AG ?_;simp only[A1];refine AN 3 _ ⟨(N+1),1,none⟩ (.int .i64 i) (by kernel_rfl) rfl rfl (fun x b=>by have K:=(G.out x b).2.1.2;go_simp) ?_;simp only[A1];refine AG ?_;simp only[A1]
   refine AN 3 _ ⟨(N+1+1),1,none⟩ (.int .i64 i) (by kernel_rfl) rfl rfl (fun x b=>by have K:=(G.out x b).2.2.2;go_simp) ?_;simp only[A1];refine AS (by kernel_rfl) aq.out (fun _=>by kernel_rfl) ?_;simp only[A1];refine AG ?_;simp only[A1];refine BV fun x b=>?_;have k0:x.heap[B]? =some (.cells #[.int .i64 0,.int .i64 0] 73 (0,0)):=(b.block B (by omega)).trans O
   have E:(prog.info? 73).map (·.size)=some (#[.int .i64 s,.int .i64 r]:Array A0).size:=Pm;have F:(#[.int .i64 0,.int .i64 0]:Array A0).size=(#[.int .i64 s,.int .i64 r]:Array A0).size:=rfl;have g3:(#[.int .i64 s,.int .i64 r]:Array A0).all (·.oneCell')=true:=OA s r
   go_wp2_with (with_reducible refine B4 rfl 73 _ _ rfl B #[.int .i64 s,.int .i64 r] #[.int .i64 0,.int .i64 0] rfl rfl 73 k0 E F g3 ?_;intro w3 v m)
   refine H5 (H6 rfl _ _ B 73 _ (0,0) _ rfl v Gq rfl (by kernel_rfl)) rfl ?_;exact⟨by rw[Z.out];rfl,by rw[ak.out];exact(Q.trans (b.mono (by omega))).grown m (by have:=b.size;omega) (fun k l=>by injection l with l;omega)⟩
  ·have ax:=()
   go_enter func69,ntmps69
   go_wp2_with fail
   rw[ag.out,ak.out]
   go_wp2_with fail
   refine(af.out wA ac).mono ?_;rintro e C ⟨rfl,o⟩;obtain⟨N,D⟩:=Aj C.heap.size;have an:B+1<=N:=by have:=o.size;omega
   have ad:=(o.block B (by omega)).trans aj;have ae:Below B w C:=ac.trans (o.mono (by omega));clear o aj aw ac;unfold BN;obtain⟨j,d⟩:=Aj (((C.alloc (.cells (BN g i) 73 (0,0))).alloc (.cells (BN g i) 73 (0,0))).alloc (.cells (BN g i) 73 (0,0)));have Q:Below B w j:=by rw[<-d];exact((ae.alloc (by omega) _).alloc (by simp;omega) _).alloc (by simp;omega) _
   have O:j.heap[B]? =some zerO:=by rw[<-d];exact BW (BW (BW ad))
   have V:j.heap[N]? =some (.cells (BN g i) 73 (0,0)):=by rw[<-d,<-D];exact BW (BW (heap_alloc_new C _))
   have E:j.heap[N+1]? =some (.cells (BN g i) 73 (0,0)):=by rw[<-d,<-D];exact BW (by simpa using heap_alloc_new (C.alloc _) _)
   have F:j.heap[N+1+1]? =some (.cells (BN g i) 73 (0,0)):=by rw[<-d,<-D];simpa using heap_alloc_new ((C.alloc _).alloc _) _
   have gz:j.heap.size=N+3:=by rw[<-d,<-D];simp
   have ao:=Fy D;have J:=Fy d;unfold BN at J;clear d D ad ae ag af;unfold zerO at O
   go_wp2_with fail
   rw[J.out,ao.out]
   have G:=Fy (fun(x:A5) (b:Below j.heap.size j x)=>(⟨HQ ((b.block N (by omega)).trans V),HQ ((b.block (N+1) (by omega)).trans E),HQ ((b.block (N+1+1) (by omega)).trans F)⟩:(x.cell? ⟨N,0,none⟩=some (.int .i64 g)/\x.cell? ⟨N,1,none⟩=some (.int .i64 i))/\(x.cell? ⟨N+1,0,none⟩=some (.int .i64 g)/\x.cell? ⟨N+1,1,none⟩=some (.int .i64 i))/\(x.cell? ⟨N+1+1,0,none⟩=some (.int .i64 g)/\x.cell? ⟨N+1+1,1,none⟩=some (.int .i64 i))))
   obtain⟨s,t⟩:=Aj (GD g g g);obtain⟨r,u⟩:=Aj (GD i i i);have ap:=Fy (fun(x:A5) (b:Below j.heap.size j x)=>(Pz g g g x).mono fun e y h=>(⟨h.1.trans (by rw[t]),h.2▸b⟩:e=.returned (.int .i64 s)/\Below j.heap.size j y))
   have aq:=Fy (fun(x:A5) (b:Below j.heap.size j x)=>(Pz i i i x).mono fun e y h=>(⟨h.1.trans (by rw[u]),h.2▸b⟩:e=.returned (.int .i64 r)/\Below j.heap.size j y));have Z:=Fy (show M=(s,r) by rw[aa.out,W.out,X.out,<-t,<-u]);clear t u aa W X;refine BY (S:=fun x=>Below j.heap.size j x) 15 (by kernel_rfl) (by kernel_rfl) (Ea _ _).drew ?_
   simp only[Im,Bi,In,Iq];refine AG ?_;simp only[A1];refine AN 3 _ ⟨(N),0,none⟩ (.int .i64 g) (by kernel_rfl) rfl rfl (fun x b=>by have K:=(G.out x b).1.1;go_simp) ?_;simp only[A1];refine AG ?_;simp only[A1]
   refine AN 3 _ ⟨(N+1),0,none⟩ (.int .i64 g) (by kernel_rfl) rfl rfl (fun x b=>by have K:=(G.out x b).2.1.1;go_simp) ?_;simp only[A1];refine AG ?_;simp only[A1];refine AN 3 _ ⟨(N+1+1),0,none⟩ (.int .i64 g) (by kernel_rfl) rfl rfl (fun x b=>by have K:=(G.out x b).2.2.1;go_simp) ?_;simp only[A1];refine AS (by kernel_rfl) ap.out (fun _=>by kernel_rfl) ?_;simp only[A1]
   refine AG ?_;simp only[A1];refine AN 3 _ ⟨(N),1,none⟩ (.int .i64 i) (by kernel_rfl) rfl rfl (fun x b=>by have K:=(G.out x b).1.2;go_simp) ?_;simp only[A1];refine AG ?_;simp only[A1];refine AN 3 _ ⟨(N+1),1,none⟩ (.int .i64 i) (by kernel_rfl) rfl rfl (fun x b=>by have K:=(G.out x b).2.1.2;go_simp) ?_;simp only[A1];refine AG ?_;simp only[A1]
   refine AN 3 _ ⟨(N+1+1),1,none⟩ (.int .i64 i) (by kernel_rfl) rfl rfl (fun x b=>by have K:=(G.out x b).2.2.2;go_simp) ?_;simp only[A1];refine AS (by kernel_rfl) aq.out (fun _=>by kernel_rfl) ?_;simp only[A1];refine AG ?_;simp only[A1];refine BV fun x b=>?_;have k0:x.heap[B]? =some (.cells #[.int .i64 0,.int .i64 0] 73 (0,0)):=(b.block B (by omega)).trans O
   have E:(prog.info? 73).map (·.size)=some (#[.int .i64 s,.int .i64 r]:Array A0).size:=Pm;have F:(#[.int .i64 0,.int .i64 0]:Array A0).size=(#[.int .i64 s,.int .i64 r]:Array A0).size:=rfl;have g3:(#[.int .i64 s,.int .i64 r]:Array A0).all (·.oneCell')=true:=OA s r
   go_wp2_with (with_reducible refine B4 rfl 73 _ _ rfl B #[.int .i64 s,.int .i64 r] #[.int .i64 0,.int .i64 0] rfl rfl 73 k0 E F g3 ?_;intro w3 v m)
   refine H5 (H6 rfl _ _ B 73 _ (0,0) _ rfl v Gq rfl (by kernel_rfl)) rfl ?_;exact⟨by rw[Z.out];rfl,by rw[ak.out];exact(Q.trans (b.mono (by omega))).grown m (by have:=b.size;omega) (fun k l=>by injection l with l;omega)⟩
 |true=>
  rw[hu] at W X
  replace W:=Fy (show U=ay from W.out)
  replace X:=Fy (show R=az from X.out)
  rw[hu] at P;have hg:decide (0<q)=true/\decide (first<(q:Int))=true:=by simpa using P.symm
  obtain⟨t1,t2⟩:=hg;have al:=Fy (fun x (b:Below B w x)=>al x b (by simpa using t1));have am:=Fy (fun x (b:Below B w x)=>am x b (by simpa using t1));clear P hu;obtain⟨u0,u1⟩:=ay;obtain⟨r0,r1⟩:=az
  go_enter func69,ntmps69
  go_wp2_with fail
  rw[ag.out,ak.out]
  go_wp2_with fail
  refine(af.out wA ac).mono ?_;rintro e C ⟨rfl,o⟩;obtain⟨N,D⟩:=Aj C.heap.size;have an:B+1<=N:=by have:=o.size;omega
  have ad:=(o.block B (by omega)).trans aj;have ae:Below B w C:=ac.trans (o.mono (by omega));clear o aj aw ac;unfold BN;obtain⟨j,d⟩:=Aj (((C.alloc (.cells (BN g i) 73 (0,0))).alloc (.cells (BN g i) 73 (0,0))).alloc (.cells (BN g i) 73 (0,0)));have Q:Below B w j:=by rw[<-d];exact((ae.alloc (by omega) _).alloc (by simp;omega) _).alloc (by simp;omega) _
  have O:j.heap[B]? =some zerO:=by rw[<-d];exact BW (BW (BW ad))
  have V:j.heap[N]? =some (.cells (BN g i) 73 (0,0)):=by rw[<-d,<-D];exact BW (BW (heap_alloc_new C _))
  have E:j.heap[N+1]? =some (.cells (BN g i) 73 (0,0)):=by rw[<-d,<-D];exact BW (by simpa using heap_alloc_new (C.alloc _) _)
  have F:j.heap[N+1+1]? =some (.cells (BN g i) 73 (0,0)):=by rw[<-d,<-D];simpa using heap_alloc_new ((C.alloc _).alloc _) _
  have gz:j.heap.size=N+3:=by rw[<-d,<-D];simp
  have ao:=Fy D;have J:=Fy d;unfold BN at J;clear d D ad ae ag af;unfold zerO at O
  go_wp2_with fail
  rw[J.out,ao.out];refine(al.out j Q).mono ?_;rintro e ar ⟨rfl,H⟩;have ah:=H.size;have z:=H.block
  replace Q:Below B w ar:=Q.trans (H.mono (by omega))
  replace O:=(z B (by omega)).trans O
  replace V:=(z N (by omega)).trans V
  replace E:=(z (N+1) (by omega)).trans E
  replace F:=(z (N+1+1) (by omega)).trans F
  replace gz:N+3<=ar.heap.size:=by omega
  clear H z ah;unfold BN at E;unfold BN;have s1:(prog.info? 73).map (·.size)=some (#[.int .i64 u0,.int .i64 u1]:Array A0).size:=Pm;have s2:(#[.int .i64 g,.int .i64 i]:Array A0).size=(#[.int .i64 u0,.int .i64 u1]:Array A0).size:=rfl;have s3:(#[.int .i64 u0,.int .i64 u1]:Array A0).all (·.oneCell')=true:=OA u0 u1
  go_wp2_with (with_reducible refine B4 rfl 73 _ _ rfl (N+1) #[.int .i64 u0,.int .i64 u1] #[.int .i64 g,.int .i64 i] rfl rfl 73 E s1 s2 s3 ?_;intro wU v m)
  replace Q:=Q.grown m (by omega) (fun k l=>by injection l with l;omega)
  have I:=m.block;have ai:=m.size
  replace O:=(I B (by omega) (by intro l;injection l with l;omega)).trans O
  replace V:=(I N (by omega) (by intro l;injection l with l;omega)).trans V
  replace F:=(I (N+1+1) (by omega) (by intro l;injection l with l;omega)).trans F
  replace E:wU.heap[N+1]? =some (.cells (BN u0 u1) 73 (0,0)):=v
  replace gz:N+3<=wU.heap.size:=by omega
  clear v m I ai s1 s2 s3;refine(am.out wU Q).mono ?_;rintro e au ⟨rfl,H⟩;have ah:=H.size;have z:=H.block
  replace Q:Below B w au:=Q.trans (H.mono (by omega))
  replace O:=(z B (by omega)).trans O
  replace V:=(z N (by omega)).trans V
  replace E:=(z (N+1) (by omega)).trans E
  replace F:=(z (N+1+1) (by omega)).trans F
  replace gz:N+3<=au.heap.size:=by omega
  clear H z ah;unfold BN at F;unfold BN;have s1:(prog.info? 73).map (·.size)=some (#[.int .i64 r0,.int .i64 r1]:Array A0).size:=Pm;have s2:(#[.int .i64 g,.int .i64 i]:Array A0).size=(#[.int .i64 r0,.int .i64 r1]:Array A0).size:=rfl;have s3:(#[.int .i64 r0,.int .i64 r1]:Array A0).all (·.oneCell')=true:=OA r0 r1
  go_wp2_with (with_reducible refine B4 rfl 73 _ _ rfl (N+1+1) #[.int .i64 r0,.int .i64 r1] #[.int .i64 g,.int .i64 i] rfl rfl 73 F s1 s2 s3 ?_;intro T v m)
  replace Q:=Q.grown m (by omega) (fun k l=>by injection l with l;omega)
  have I:=m.block;have ai:=m.size
  replace O:=(I B (by omega) (by intro l;injection l with l;omega)).trans O
  replace V:=(I N (by omega) (by intro l;injection l with l;omega)).trans V
  replace E:=(I (N+1) (by omega) (by intro l;injection l with l;omega)).trans E
  replace F:T.heap[N+1+1]? =some (.cells (BN r0 r1) 73 (0,0)):=v
  replace gz:N+3<=T.heap.size:=by omega
  clear v m I ai s1 s2 s3
  have G:=Fy (fun(x:A5) (b:Below T.heap.size T x)=>(⟨HQ ((b.block N (by omega)).trans V),HQ ((b.block (N+1) (by omega)).trans E),HQ ((b.block (N+1+1) (by omega)).trans F)⟩:(x.cell? ⟨N,0,none⟩=some (.int .i64 g)/\x.cell? ⟨N,1,none⟩=some (.int .i64 i))/\(x.cell? ⟨N+1,0,none⟩=some (.int .i64 u0)/\x.cell? ⟨N+1,1,none⟩=some (.int .i64 u1))/\(x.cell? ⟨N+1+1,0,none⟩=some (.int .i64 r0)/\x.cell? ⟨N+1+1,1,none⟩=some (.int .i64 r1))))
  obtain⟨s,t⟩:=Aj (GD g u0 r0);obtain⟨r,u⟩:=Aj (GD i u1 r1);have ap:=Fy (fun(x:A5) (b:Below T.heap.size T x)=>(Pz g u0 r0 x).mono fun e y h=>(⟨h.1.trans (by rw[t]),h.2▸b⟩:e=.returned (.int .i64 s)/\Below T.heap.size T y))
  have aq:=Fy (fun(x:A5) (b:Below T.heap.size T x)=>(Pz i u1 r1 x).mono fun e y h=>(⟨h.1.trans (by rw[u]),h.2▸b⟩:e=.returned (.int .i64 r)/\Below T.heap.size T y));have Z:=Fy (show M=(s,r) by rw[aa.out,W.out,X.out,<-t,<-u]);clear t u aa W X;refine BY (S:=fun x=>Below T.heap.size T x) 15 (by kernel_rfl) (by kernel_rfl) (Ea _ _).drew ?_
  simp only[Im,Bi,In,Iq];refine AG ?_;simp only[A1];refine AN 3 _ ⟨(N),0,none⟩ (.int .i64 g) (by kernel_rfl) rfl rfl (fun x b=>by have K:=(G.out x b).1.1;go_simp) ?_;simp only[A1];refine AG ?_;simp only[A1]
  refine AN 3 _ ⟨(N+1),0,none⟩ (.int .i64 u0) (by kernel_rfl) rfl rfl (fun x b=>by have K:=(G.out x b).2.1.1;go_simp) ?_;simp only[A1];refine AG ?_;simp only[A1];refine AN 3 _ ⟨(N+1+1),0,none⟩ (.int .i64 r0) (by kernel_rfl) rfl rfl (fun x b=>by have K:=(G.out x b).2.2.1;go_simp) ?_;simp only[A1];refine AS (by kernel_rfl) ap.out (fun _=>by kernel_rfl) ?_;simp only[A1]
  refine AG ?_;simp only[A1];refine AN 3 _ ⟨(N),1,none⟩ (.int .i64 i) (by kernel_rfl) rfl rfl (fun x b=>by have K:=(G.out x b).1.2;go_simp) ?_;simp only[A1];refine AG ?_;simp only[A1];refine AN 3 _ ⟨(N+1),1,none⟩ (.int .i64 u1) (by kernel_rfl) rfl rfl (fun x b=>by have K:=(G.out x b).2.1.2;go_simp) ?_;simp only[A1];refine AG ?_;simp only[A1]
  refine AN 3 _ ⟨(N+1+1),1,none⟩ (.int .i64 r1) (by kernel_rfl) rfl rfl (fun x b=>by have K:=(G.out x b).2.2.2;go_simp) ?_;simp only[A1];refine AS (by kernel_rfl) aq.out (fun _=>by kernel_rfl) ?_;simp only[A1];refine AG ?_;simp only[A1];refine BV fun x b=>?_;have k0:x.heap[B]? =some (.cells #[.int .i64 0,.int .i64 0] 73 (0,0)):=(b.block B (by omega)).trans O
  have E:(prog.info? 73).map (·.size)=some (#[.int .i64 s,.int .i64 r]:Array A0).size:=Pm;have F:(#[.int .i64 0,.int .i64 0]:Array A0).size=(#[.int .i64 s,.int .i64 r]:Array A0).size:=rfl;have g3:(#[.int .i64 s,.int .i64 r]:Array A0).all (·.oneCell')=true:=OA s r
  go_wp2_with (with_reducible refine B4 rfl 73 _ _ rfl B #[.int .i64 s,.int .i64 r] #[.int .i64 0,.int .i64 0] rfl rfl 73 k0 E F g3 ?_;intro w3 v m)
  refine H5 (H6 rfl _ _ B 73 _ (0,0) _ rfl v Gq rfl (by kernel_rfl)) rfl ?_;exact⟨by rw[Z.out];rfl,by rw[ak.out];exact(Q.trans (b.mono (by omega))).grown m (by have:=b.size;omega) (fun k l=>by injection l with l;omega)⟩
end Go.Proofs.YtjjmalchelniiaaGreatDoor