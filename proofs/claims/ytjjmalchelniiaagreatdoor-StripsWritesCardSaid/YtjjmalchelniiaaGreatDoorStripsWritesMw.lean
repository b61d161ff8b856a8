/- StripsWrites, 23. No condition. -/
import Derived.Test.YtjjmalchelniiaaGreatDoorStripsWritesMb
import Derived.Test.YtjjmalchelniiaaGreatDoorStripsWritesMe
import Derived.Test.YtjjmalchelniiaaGreatDoorStripsWritesMf
import Derived.Test.YtjjmalchelniiaaGreatDoorStripsWritesMh
import Derived.Test.YtjjmalchelniiaaGreatDoorStripsWritesMq
import Derived.Test.YtjjmalchelniiaaGreatDoorStripsWritesMr
import Derived.Test.YtjjmalchelniiaaGreatDoorStripsWritesMt
import Derived.Test.YtjjmalchelniiaaGreatDoorStripsWritesMu
import Derived.Test.YtjjmalchelniiaaGreatDoorStripsWritesMv
import Derived.Deep.RegionWith
open Go.Proofs.Tryz
open Go renaming World->A5,Calls->A9,Addr->Aa,Ending->Ad,DataW->Ab
set_option maxHeartbeats 4000000
namespace Go.Proofs.YtjjmalchelniiaaGreatDoor
section
open Go.RowKit Go.Lib
abbrev L8:=@decide_eq_true_eq
abbrev L9:=@underlying153
abbrev La:=@Exit.noGoto_ret
abbrev Lb:=@decide_eq_false_iff_not
abbrev Lc:=@Bool.not_eq_true'
abbrev Ld:=@List.mem_of_getElem?
abbrev Le:=@underlying72
abbrev Lg:=@Bool.and_true
abbrev Lh:=@Nat.lt_trans
abbrev Li:=@Int.natCast_inj
abbrev Lj:=@ntmps255
theorem vB:∀i,i<103->2<=AU i:=by decide +kernel
theorem vN:∀last:Bool,∀a,a<41->1<=CJ last a->∀r,r<a->1<=CJ last r:=by decide +kernel
theorem dB (v r:Nat)(h:v%2=r):bits .and .i64 (v:Int) 1=(r:Int):=by rw[QZ];omega
theorem pA (p v:Nat)(hp:p<102)(w:A5)(ht:BK w):A9 prog 290 #[.int .i64 (p:Int),.int .i64 (v:Int)] w fun e w'=>e=.returned (OL (NE (evT p) (v%2==1)))/\Below w.heap.size w w':=by
 obtain⟨⟨h1,h2,h3⟩,h4,h5,h6⟩:=aZ p hp;obtain⟨f,b,j,he⟩:∃f b j,evT p=(f,b,j):=⟨_,_,_,rfl⟩;rw[he] at h1 h2 h3 h4 h5 h6 ⊢;simp only at h1 h2 h3 h4 h5 h6;have L:=Rc.1 h1;unfold plT at h2;have H:=fun(r:Nat) (hr:r<=b) (x:A5) (M:BK x)=>UT f r (by omega) x M;have hpos:=fun(r:Nat) (hr:r<b)=>vN f b h3 (by omega) r hr
 have l:=fun(r:Nat) (hr:r<b)=>zI f (show r+1<=b by omega);have I:∀r,F8 f (r+1)=F8 f r+CJ f r:=fun r=>rfl;have T:F8 f 0=0:=rfl;obtain⟨r1,N⟩:=Ah (v%2);have U:r1=0\/r1=1:=by omega
 have F:=Dp (dB v r1 N);rw[N];obtain⟨B,m⟩:=Ah w.heap.size;obtain⟨k,G⟩:∃k,p=HO f+k:=⟨p-HO f,by omega⟩;have V:k=F8 f b+(j-1):=by omega
 generalize ad:F8 f=sm at *;generalize ae:CJ f=E at *;have W:=Dp H;have X:=Dp hpos;have J:=Dp l;have Y:=Dp I;have ai:=Dp T;have K:=Dp V;have S:=Dp m;have aj:=Dp L.2;have ac:=Dp L.1;have ak:=Dp (show j=k-sm b+1 by omega);have n:k<=102:=by omega
 clear he h1 h2 H hpos l I T V L ad ae N h5;cases f with
 |false=>
  have t0:decide (58<=(p:Int))=false:=by rw[Lb];have:=of_decide_eq_false h4.symm;omega
  have q:(p:Int)=0+(k:Int):=by rw[G];simp[HO]
  have g:Below B w ((w.alloc (.cells #[.bool false,.int .i64 0,.int .i64 0] 153 (0,0))).alloc (.cells #[.bool false,.int .i64 0,.int .i64 0] 153 (0,0))):=by rw[<-m];exact((Dq _ w).alloc (Ba _) _).alloc (by simp) _
  have a:((w.alloc (.cells #[.bool false,.int .i64 0,.int .i64 0] 153 (0,0))).alloc (.cells #[.bool false,.int .i64 0,.int .i64 0] 153 (0,0))).heap[B]? =some (C3 false 0 0):=by rw[<-m];exact heap_alloc2_old w _ _
  have c:((w.alloc (.cells #[.bool false,.int .i64 0,.int .i64 0] 153 (0,0))).alloc (.cells #[.bool false,.int .i64 0,.int .i64 0] 153 (0,0))).heap[B+1]? =some (C3 false 0 0):=by rw[<-m];exact heap_alloc2_new w _ _
  have af:=Dp (fun(x:A5) (M:Below B w x)=>(ht.below (by rw[m];exact M):BK x));have O:=Dp q;clear ht m h4 G q
  go_enter func290,ntmps290
  go_wp2
  rw[S.out];generalize (w.alloc (.cells #[.bool false,.int .i64 0,.int .i64 0] 153 (0,0))).alloc (.cells #[.bool false,.int .i64 0,.int .i64 0] 153 (0,0))=w2 at g a c ⊢
  go_loopw [0] (fun u wr=>∃r x:Nat,r<=b/\u=.int .i64 x/\x<=102/\Hid (x+sm r=k)/\wr.heap[B+1]? =some (C3 false r 0)/\wr.heap[B]? =some (C3 false 0 0)/\Below B w wr) (fun u _=>(intOf u).toNat)
  case atStart=>exact⟨0,k,Ds _,C6 (Value.int .i64) (by have:=O.out;omega),n,Dp (by rw[ai.out];rfl),c,a,g⟩
  case round=>
   clear g a c;obtain⟨r,x,hr,rfl,M,d,c,a,P⟩:=hrel;obtain⟨c0,c1,c2,f0,f1,f2⟩:=EE c;obtain⟨d0,d1,d2,k0,k1,k2⟩:=EE a;have h:B<wr.heap.size:=(Ed.1 a).1;have hc:=W.out r hr _ (af.out _ P);by_cases s:r<b
   ·have e1:=J.out r s;have e2:=Y.out r;have e3:=X.out r s;have Z:=Dp (show x-E r+sm (r+1)=k by have:=d.out;have:=K.out;omega);have t:E r<=x:=by have:=d.out;have:=K.out;omega
    clear e1 e2;generalize E r=y at hc Z t e3;have t1:decide (y<=x)=true:=by simpa using t
    clear d
    go_wp2_with fail
    refine hc.mono ?_;rintro e Q ⟨rfl,rfl⟩
    go_wp2_with fail
    refine hc.mono ?_;rintro e Q ⟨rfl,rfl⟩
    go_wp2
    go_roundw
    case rel=>exact⟨r+1,x-y,by omega,by go_num,by omega,Z,by rw[show ((r+1:Nat):Int)=(r:Int)+1 by omega];exact U6 c _,((DM wr ⟨B+1,1,none⟩ _).block B h (by simp)).trans a,P.setCell (by simp) _⟩
    case measure=>simp[intOf];omega
   ·obtain rfl:r=b:=by omega
    have z:x<E r:=by have:=d.out;have:=K.out;have:=aj.out;have:=ac.out;omega
    have A:(x:Int)+1=(j:Int):=by have:=d.out;have:=K.out;have:=ac.out;omega
    generalize E r=y at hc z;have t1:decide (y<=x)=false:=by simp;omega
    have aa:=Dp A;clear A;have C:∀u,Below B w (wr.setCell ⟨B+1,2,none⟩ u):=fun u=>P.setCell (by simp) _;have i:∀u,(wr.setCell ⟨B+1,2,none⟩ u).heap[B]? =some (C3 false 0 0):=fun u=>((DM wr ⟨B+1,2,none⟩ u).block B h (by simp)).trans a
    have D:∀u R,((wr.setCell ⟨B+1,2,none⟩ u).setCell ⟨B+1,2,none⟩ R).heap[B]? =some (C3 false 0 0):=fun u R=>((DM (wr.setCell ⟨B+1,2,none⟩ u) ⟨B+1,2,none⟩ R).block B (Bg h (DM wr ⟨B+1,2,none⟩ u).size) (by simp)).trans (i u);have ab:=Dp C;have ag:=Dp i;have ah:=Dp D;clear C i D;rcases U with rfl|rfl
    ·have g1:(bits .and .i64 (v:Int) 1==1)=false:=by rw[F.out];rfl
     go_wp2_with fail
     refine hc.mono ?_;rintro e Q ⟨rfl,rfl⟩
     go_wp2
     exact J5 (J6 rfl _ _ B 153 _ (0,0) _ rfl (BF (o:=2) (.int .i64 ((x:Int)+1)) (BF (o:=1) (.int .i64 (r:Int)) (BF (o:=0) (.bool false) (ag.out _)))) L9 rfl (by kernel_rfl)) rfl ⟨by rw[aa.out];rfl,by rw[S.out];exact(((ab.out _).setCell (Ba _) _).setCell (Ba _) _).setCell (Ba _) _⟩
    ·have g1:(bits .and .i64 (v:Int) 1==1)=true:=by rw[F.out];rfl
     go_wp2_with fail
     refine hc.mono ?_;rintro e Q ⟨rfl,rfl⟩
     go_wp2
     exact J5 (J6 rfl _ _ B 153 _ (0,0) _ rfl (BF (o:=2) (.int .i64 (-((x:Int)+1))) (BF (o:=1) (.int .i64 (r:Int)) (BF (o:=0) (.bool false) (ah.out _ _)))) L9 rfl (by kernel_rfl)) rfl ⟨by rw[aa.out];rfl,by rw[S.out];exact((((ab.out _).setCell (by simp) _).setCell (Ba _) _).setCell (Ba _) _).setCell (Ba _) _⟩
 |true=>
  have t0:decide (58<=(p:Int))=true:=by rw[Fi];have:=Fq h4.symm;omega
  have q:(p:Int)=58+(k:Int):=by rw[G];simp[HO]
  have g:Below B w ((w.alloc (.cells #[.bool false,.int .i64 0,.int .i64 0] 153 (0,0))).alloc (.cells #[.bool true,.int .i64 0,.int .i64 0] 153 (0,0))):=by rw[<-m];exact((Dq _ w).alloc (Ba _) _).alloc (by simp) _
  have a:((w.alloc (.cells #[.bool false,.int .i64 0,.int .i64 0] 153 (0,0))).alloc (.cells #[.bool true,.int .i64 0,.int .i64 0] 153 (0,0))).heap[B]? =some (C3 false 0 0):=by rw[<-m];exact heap_alloc2_old w _ _
  have c:((w.alloc (.cells #[.bool false,.int .i64 0,.int .i64 0] 153 (0,0))).alloc (.cells #[.bool true,.int .i64 0,.int .i64 0] 153 (0,0))).heap[B+1]? =some (C3 true 0 0):=by rw[<-m];exact heap_alloc2_new w _ _
  have af:=Dp (fun(x:A5) (M:Below B w x)=>(ht.below (by rw[m];exact M):BK x));have O:=Dp q;clear ht m h4 G q
  go_enter func290,ntmps290
  go_wp2
  rw[S.out];generalize (w.alloc (.cells #[.bool false,.int .i64 0,.int .i64 0] 153 (0,0))).alloc (.cells #[.bool true,.int .i64 0,.int .i64 0] 153 (0,0))=w2 at g a c ⊢
  go_loopw [0] (fun u wr=>∃r x:Nat,r<=b/\u=.int .i64 x/\x<=102/\Hid (x+sm r=k)/\wr.heap[B+1]? =some (C3 true r 0)/\wr.heap[B]? =some (C3 false 0 0)/\Below B w wr) (fun u _=>(intOf u).toNat)
  case atStart=>exact⟨0,k,Ds _,C6 (Value.int .i64) (by have:=O.out;omega),n,Dp (by rw[ai.out];rfl),c,a,g⟩
  case round=>
   clear g a c;obtain⟨r,x,hr,rfl,M,d,c,a,P⟩:=hrel;obtain⟨c0,c1,c2,f0,f1,f2⟩:=EE c;obtain⟨d0,d1,d2,k0,k1,k2⟩:=EE a;have h:B<wr.heap.size:=(Ed.1 a).1;have hc:=W.out r hr _ (af.out _ P);by_cases s:r<b
   ·have e1:=J.out r s;have e2:=Y.out r;have e3:=X.out r s;have Z:=Dp (show x-E r+sm (r+1)=k by have:=d.out;have:=K.out;omega);have t:E r<=x:=by have:=d.out;have:=K.out;omega
    clear e1 e2;generalize E r=y at hc Z t e3;have t1:decide (y<=x)=true:=by simpa using t
    clear d
    go_wp2_with fail
    refine hc.mono ?_;rintro e Q ⟨rfl,rfl⟩
    go_wp2_with fail
    refine hc.mono ?_;rintro e Q ⟨rfl,rfl⟩
    go_wp2
    go_roundw
    case rel=>exact⟨r+1,x-y,by omega,by go_num,by omega,Z,by rw[show ((r+1:Nat):Int)=(r:Int)+1 by omega];exact U6 c _,((DM wr ⟨B+1,1,none⟩ _).block B h (by simp)).trans a,P.setCell (by simp) _⟩
    case measure=>simp[intOf];omega
   ·obtain rfl:r=b:=by omega
    have z:x<E r:=by have:=d.out;have:=K.out;have:=aj.out;have:=ac.out;omega
    have A:(x:Int)+1=(j:Int):=by have:=d.out;have:=K.out;have:=ac.out;omega
    generalize E r=y at hc z;have t1:decide (y<=x)=false:=by simp;omega
    have aa:=Dp A;clear A;have C:∀u,Below B w (wr.setCell ⟨B+1,2,none⟩ u):=fun u=>P.setCell (by simp) _;have i:∀u,(wr.setCell ⟨B+1,2,none⟩ u).heap[B]? =some (C3 false 0 0):=fun u=>((DM wr ⟨B+1,2,none⟩ u).block B h (by simp)).trans a
    have D:∀u R,((wr.setCell ⟨B+1,2,none⟩ u).setCell ⟨B+1,2,none⟩ R).heap[B]? =some (C3 false 0 0):=fun u R=>((DM (wr.setCell ⟨B+1,2,none⟩ u) ⟨B+1,2,none⟩ R).block B (Bg h (DM wr ⟨B+1,2,none⟩ u).size) (by simp)).trans (i u);have ab:=Dp C;have ag:=Dp i;have ah:=Dp D;clear C i D;rcases U with rfl|rfl
    ·have g1:(bits .and .i64 (v:Int) 1==1)=false:=by rw[F.out];rfl
     go_wp2_with fail
     refine hc.mono ?_;rintro e Q ⟨rfl,rfl⟩
     go_wp2
     exact J5 (J6 rfl _ _ B 153 _ (0,0) _ rfl (BF (o:=2) (.int .i64 ((x:Int)+1)) (BF (o:=1) (.int .i64 (r:Int)) (BF (o:=0) (.bool true) (ag.out _)))) L9 rfl (by kernel_rfl)) rfl ⟨by rw[aa.out];rfl,by rw[S.out];exact(((ab.out _).setCell (Ba _) _).setCell (Ba _) _).setCell (Ba _) _⟩
    ·have g1:(bits .and .i64 (v:Int) 1==1)=true:=by rw[F.out];rfl
     go_wp2_with fail
     refine hc.mono ?_;rintro e Q ⟨rfl,rfl⟩
     go_wp2
     exact J5 (J6 rfl _ _ B 153 _ (0,0) _ rfl (BF (o:=2) (.int .i64 (-((x:Int)+1))) (BF (o:=1) (.int .i64 (r:Int)) (BF (o:=0) (.bool true) (ah.out _ _)))) L9 rfl (by kernel_rfl)) rfl ⟨by rw[aa.out];rfl,by rw[S.out];exact((((ab.out _).setCell (by simp) _).setCell (Ba _) _).setCell (Ba _) _).setCell (Ba _) _⟩
theorem pK (v:Nat)(w:A5):A9 prog 291 #[.int .i64 (v:Int)] w fun e B=>e=.returned (OL (EW v))/\Below w.heap.size w B:=by
 obtain⟨a,j⟩:∃a:Nat,v / 256=a:=⟨_,rfl⟩;obtain⟨l,hl⟩:∃l:Nat,v%256=l:=⟨_,rfl⟩;obtain⟨r,hr⟩:∃r:Nat,a%64=r:=⟨_,rfl⟩;obtain⟨b,k⟩:∃b:Nat,a / 64%2=b:=⟨_,rfl⟩;have d:v / 256%64=r:=by rw[j,hr]
 have f:v / 16384%2=b:=by rw[<-k,<-j,Dz]
 have E:=Dp (show OL (EW v)=.agg #[.bool (b==1),.int .i64 (r:Int),.int .i64 (if 127<l then (l:Int)-256 else (l:Int))] by unfold OL EW;simp only[d,f,hl]);rw[E.out];have h:bits .and .i64 (v:Int) 255=(l:Int):=by rw[show (255:Int)=2^8-1 by decide,LR _ 8 (by omega)];omega
 have q:(v:Int) / 2^8=(a:Int):=by omega
 have g:(v:Int) / 256=(a:Int):=by omega
 have m:bits .and .i64 (a:Int) 63=(r:Int):=by rw[Yf];omega
 have n:bits .and .i64 ((a:Int) / 64) 1=(b:Int):=by rw[QZ];omega
 have p:((b:Int)==1)=(b==1):=by rw[Jr,Bm,Bm];omega
 have s:=Dp h;have t:=Dp g;have u:=Dp m;have x:=Dp n;have y:=Dp p;have z:l<256:=by omega
 have i:∀o,Below w.heap.size w (w.alloc o):=fun o=>(Dq _ w).alloc (Ba _) o;have A:∀cs,(w.alloc (.cells cs 153 (0,0))).heap[w.heap.size]? =some (.cells cs 153 (0,0)):=fun cs=>heap_alloc_new w _;by_cases c:127<l
 ·have t0:decide (127<bits .and .i64 (v:Int) 255)=true:=by rw[h];simp;omega
  have C:0<=bits .and .i64 (v:Int) 255:=by omega
  have r1:bits .and .i64 (v:Int) 255<=255:=by omega
  rw[Bc c];clear E j hl hr k d f h q g m n p c
  go_enter func291,ntmps291
  go_wp2
  exact J5 (J6 rfl _ _ w.heap.size 153 _ (0,0) _ rfl (A _) L9 rfl (by kernel_rfl)) rfl ⟨by rw[t.out,x.out,u.out,s.out,y.out],i _⟩
 ·have t0:decide (127<bits .and .i64 (v:Int) 255)=false:=by rw[h];simp;omega
  have C:0<=bits .and .i64 (v:Int) 255:=by omega
  have r1:bits .and .i64 (v:Int) 255<=255:=by omega
  rw[Bb c];clear E j hl hr k d f h q g m n p c
  go_enter func291,ntmps291
  go_wp2
  exact J5 (J6 rfl _ _ w.heap.size 153 _ (0,0) _ rfl (A _) L9 rfl (by kernel_rfl)) rfl ⟨by rw[t.out,x.out,u.out,s.out,y.out],i _⟩
theorem PG (y m r k:Nat)(hm:m=2^k)(h:r<m)(c:m*y+r<4294967296):bits .or .i64 ((y:Int)*(m:Int)) (r:Int)=((m*y+r:Nat):Int):=by
 have a:=Ck (i:=k) (b:=r) (by rw[<-hm];exact h) y;rw[show (y:Int)*(m:Int)=((m*y:Nat):Int) by rw[Int.mul_comm];simp];show IntKind.i64.wrap ((BitVec.ofInt 64 ((m*y:Nat):Int) ||| BitVec.ofInt 64 ((r:Nat):Int)).toNat:Int)=_
 rw[C7,C7,Dc,Ca,Ca,Bp (by omega),Bp (by omega)];rw[<-hm] at a;rw[<-a,Cq];omega
theorem tE (last:Bool)(r:Nat)(c:Int)(hr:r<64)(hl:-128<=c/\c<=127)(w:A5)(R:BK w):A9 prog 224 #[.agg #[.bool last,.int .i64 (r:Int),.int .i64 c]] w fun e w'=>
  e=.returned (.tuple #[.int .i64 (DD last r c:Nat),.int .i64 (DC last r c:Nat)])/\Below w.heap.size w w':=by
 have j:=fun x g=>Xq last r c hr hl x g;have J:=Dp (fun(x:A5) (g:Below w.heap.size w x)=>(R.below g:BK x));obtain⟨a,D⟩:∃a:Nat,c.natAbs=a:=⟨_,rfl⟩;rw[D] at j;cases hin:inT last r a with
 |true=>
  obtain⟨p,o⟩:=Ah (plT last r a);have S:p<102:=by rw[<-o];exact Py hr hin
  have K:=Dp (show DD last r c=2*DK p+(if c<0 then 1 else 0) by unfold DD;rw[D,hin,Bc rfl,o]);have L:=Dp (show DC last r c=AU p+1 by unfold DC;rw[D,hin,Bc rfl,o]);rw[hin,Bc rfl,o] at j;have i:=fun x g=>PY p (by omega) x g;have m:=fun x g=>TD p (by omega) x g;rw[Bb (by omega)] at m;rw[K.out,L.out]
  obtain⟨b0,b1,b2,b3⟩:=IY p (by omega);have q:=fun(b:Bool) x=>Ze b x;obtain⟨s,hs⟩:∃s:Bool,decide (c<0)=s:=⟨_,rfl⟩;have ho:=PG (DK p) 2 s.toNat 1 rfl (by cases s <;> decide) (by cases s <;> simp <;> omega);have E:(if c<0 then 1 else 0:Nat)=s.toNat:=by rw[<-hs];by_cases h:c<0 <;> simp[h]
  rw[E];generalize DK p=x at i b3 ho ⊢;generalize AU p=y at i m b0 b1 ⊢;have O:=Dp (show bits .or .i64 ((x:Int)*2) (s.toNat:Int)=_ from ho);have ag:=Dp E;have k:Below w.heap.size w (w.alloc (.cells #[.bool last,.int .i64 (r:Int),.int .i64 c] 153 (0,0))):=(Dq _ w).alloc (Ba _) _;have t:=J.out _ k
  have M:∀x,Below (w.heap.size+1) (w.alloc (.cells #[.bool last,.int .i64 (r:Int),.int .i64 c] 153 (0,0))) x->x.heap[w.heap.size]? =some (C3 last r c):=fun x g=>(g.block w.heap.size (by omega)).trans (heap_alloc_new w _);have T:=Dp M;have u:(w.alloc (.cells #[.bool last,.int .i64 (r:Int),.int .i64 c] 153 (0,0))).heap.size=w.heap.size+1:=by simp
  have N:=Dp u;clear K L hin D o R ho b2 E M u
  go_enter func224,ntmps224
  go_wp2_with fail
  refine(j _ t).mono ?_;rintro e w1 ⟨rfl,d⟩;rw[N.out] at d;have f:=k.trans (d.mono (by omega))
  go_wp2_with fail
  refine(i _ (J.out _ f)).mono ?_;rintro e F ⟨rfl,l⟩;have G:=f.size;have v:=d.trans (l.mono (by have:=d.size;rw[N.out] at this;exact this));have n:=f.trans (l.mono G);obtain⟨c0,c1,c2,_,_,_⟩:=EE (T.out _ v);have H:=J.out _ n;clear d f l v j i t k
  go_wp2_with fail
  refine(q _ _).mono ?_;rintro e w3 ⟨rfl,rfl⟩
  go_wp2_with fail
  refine(m _ H).mono ?_;rintro e w4 ⟨rfl,A⟩
  go_wp2
  go_ret2
  exact⟨UH O.out rfl,n.trans (A.mono n.size)⟩
 |false=>
  have K:=Dp (show DD last r c=((6+last.toNat)*64+r)*256+(c%256).toNat by unfold DD;rw[D,hin,Bb (by decide)]);have L:=Dp (show DC last r c=22 by unfold DC;rw[D,hin,Bb (by decide)]);rw[hin,Bb (by decide)] at j;have i:=fun x g=>PY 102 (by omega) x g;have m:=fun x g=>TD 102 (by omega) x g;rw[Bc rfl] at m
  rw[show DK 102=3 by decide +kernel] at i;rw[K.out,L.out];have q:=fun x=>Ze last x;obtain⟨s,hs⟩:=Ah ((c%256).toNat);have I:s<256:=by omega
  have B:bits .and .i64 c 255=(s:Int):=by rw[show (255:Int)=2^8-1 by decide,LR _ 8 (by omega)];omega
  have U:=PG 3 2 last.toNat 1 rfl (by cases last <;> decide) (by cases last <;> simp);obtain⟨y,V⟩:=Ah (6+last.toNat);rw[show 2*3+last.toNat=y by omega] at U;have ac:y<=7:=by rw[<-V];cases last <;> decide
  have W:=PG y 64 r 6 rfl hr (by omega);have X:=PG (64*y+r) 256 s 8 rfl I (by omega);rw[hs,V,show (y*64+r)*256+s=256*(64*y+r)+s by omega];obtain⟨z,hz⟩:=Ah (64*y+r);rw[hz] at W X ⊢;have Y:z<512:=by omega
  have ad:=Dp (show bits .or .i64 6 (last.toNat:Int)=(y:Int) from U);have ae:=Dp (show bits .or .i64 ((y:Int)*64) (r:Int)=(z:Int) from W);have af:=Dp (show bits .or .i64 ((z:Int)*256) (s:Int)=_ from X);have Z:=Dp B;have k:Below w.heap.size w (w.alloc (.cells #[.bool last,.int .i64 (r:Int),.int .i64 c] 153 (0,0))):=(Dq _ w).alloc (Ba _) _
  have t:=J.out _ k;have M:∀x,Below (w.heap.size+1) (w.alloc (.cells #[.bool last,.int .i64 (r:Int),.int .i64 c] 153 (0,0))) x->x.heap[w.heap.size]? =some (C3 last r c):=fun x g=>(g.block w.heap.size (by omega)).trans (heap_alloc_new w _);have T:=Dp M;have u:(w.alloc (.cells #[.bool last,.int .i64 (r:Int),.int .i64 c] 153 (0,0))).heap.size=w.heap.size+1:=by simp
  have N:=Dp u;clear K L hin D R M u hs B U W X V hz
  go_enter func224,ntmps224
  go_wp2_with fail
  refine(j _ t).mono ?_;rintro e w1 ⟨rfl,d⟩;rw[N.out] at d;have f:=k.trans (d.mono (by omega))
  go_wp2_with fail
  refine(i _ (J.out _ f)).mono ?_;rintro e F ⟨rfl,l⟩;have G:=f.size;have v:=d.trans (l.mono (by have:=d.size;rw[N.out] at this;exact this));have n:=f.trans (l.mono G);obtain⟨c0,c1,c2,_,_,_⟩:=EE (T.out _ v);have H:=J.out _ n;clear d f l v j i t k
  go_wp2_with fail
  refine(q _).mono ?_;rintro e w3 ⟨rfl,rfl⟩;have p1:=ad.out;have p2:=ae.out;have p3:=Z.out
  go_wp2_with fail
  have ab:BK F.drew:=H;have C:Below w.heap.size w F.drew:=n.drew;have P:F.drew.cell? ⟨w.heap.size,2,none⟩=some (.int .i64 c):=c2;have aa:w.heap.size<F.drew.heap.size:=Fc _ ⟨w.heap.size,2,none⟩ P
  have Q:=Dp (fun(x:A5) (g:Below F.drew.heap.size F.drew x)=>((g.cell (p:=⟨w.heap.size,2,none⟩) aa).trans P:x.cell? ⟨w.heap.size,2,none⟩=some (.int .i64 c)));have sw:IntKind.i64.wrap ((z:Int)*256)=(z:Int)*256:=Kp _ (by omega)
  go_region_with (go_at_call 236;refine(m _ (by assumption)).mono ?_;rintro e w4 ⟨rfl,A⟩;have c4:=Q.out _ A)
  all_goals
   go_wp2
   go_ret2
   exact⟨UH af.out rfl,C.trans (A.mono C.size)⟩
theorem R5 (last:Bool)(r:Nat)(a:Int)(hr:r<64):3<=DC last r a/\DC last r a<=22/\DD last r a<2^DC last r a:=by
 unfold DC DD;cases hin:inT last r a.natAbs with
 |true=>
  simp only[Kg];obtain⟨b,c,b2,_⟩:=IY (plT last r a.natAbs) (Lh (Py hr hin) (by decide));have b4:=vB _ (Lh (Py hr hin) (show 102<103 by decide));refine⟨by omega,by omega,?_⟩;rw[Co]
  split <;> omega
 |false=>
  simp only[K8,J9];refine⟨by decide,by decide,?_⟩;have h1:last.toNat<=1:=by cases last <;> decide
  have h2:(a%256).toNat<256:=by omega
  omega
theorem Qdh (last:Bool)(c b:Int)(w:A5)(o:BK w):A9 prog 207 #[.agg #[.bool last,.int .i64 c,.int .i64 b]] w fun e v=>
  e=.returned (.tuple #[.string (DL last c b),.bool (!(DL last c b).data.toList.isEmpty)])/\Below w.heap.size w v:=by
 have f:=fun x=>Sp last c b x;have z:=Dp (fun(x:A5) (m:Below w.heap.size w x)=>(o.below m:BK x));have h:Below w.heap.size w (w.alloc (.cells #[.bool last,.int .i64 c,.int .i64 b] 153 (0,0))):=(Dq _ w).alloc (Ba _) _
 have p:∀x,Below (w.heap.size+1) (w.alloc (.cells #[.bool last,.int .i64 c,.int .i64 b] 153 (0,0))) x->x.heap[w.heap.size]? =some (C3 last c b):=fun x m=>(m.block w.heap.size (by omega)).trans (heap_alloc_new w _);have A:=Dp p;have i:(w.alloc (.cells #[.bool last,.int .i64 c,.int .i64 b] 153 (0,0))).heap.size=w.heap.size+1:=by simp
 have t:=Dp i;cases hr:DY c b with
 |false=>
  have F:=Dp (show DL last c b=⟨#[]⟩ by unfold DL;rw[hr,Bb (by decide)]);rw[F.out];rw[hr] at f;clear hr o p i
  go_enter func207,ntmps207
  go_wp2_with fail
  refine(f _).mono ?_;rintro e B ⟨rfl,d⟩;rw[t.out] at d
  go_wp2
  go_ret2
  exact⟨rfl,h.trans (d.mono (by omega))⟩
 |true=>
  obtain⟨E,r1,H,C,I⟩:=JK.1 hr;obtain⟨r,rfl⟩:∃r:Nat,c=r:=⟨c.toNat,by omega⟩;have F:=Dp (show DL last r b=⟨(AB (DD last r b) (DC last r b)).toArray⟩ by unfold DL;rw[hr,Bc rfl];rfl);have j:=fun x m=>tE last r b (by omega) ⟨by omega,C⟩ x m;obtain⟨f1,f2,f3⟩:=R5 last r b (by omega);have G:=Dp (show (!(DL last r b).data.toList.isEmpty)=true by
   rw[F.out];show (!(AB (DD last r b) (DC last r b)).isEmpty)=true;cases hl:AB (DD last r b) (DC last r b) with
   |nil=>
    have e:=BB (DD last r b) (DC last r b);rw[hl] at e;simp at e;omega
   |cons a l=>rfl)
  rw[G.out,F.out];rw[hr] at f;generalize DD last r b=x at j f3 ⊢;generalize DC last r b=y at j f1 f2 f3 ⊢;have u:x<4194304:=Bg f3 (Br (by decide) f2);have g:=fun w=>Qx (x:Int) (y:Int) w (by omega) (by
   unfold F4;rw[Fi];refine⟨by omega,by omega,by omega,?_⟩;rw[Dr]
   exact_mod_cast f3)
  simp only[Dr] at g;clear hr o p i F G f3
  go_enter func207,ntmps207
  go_wp2_with fail
  refine(f _).mono ?_;rintro e B ⟨rfl,d⟩;rw[t.out] at d;have k:=h.trans (d.mono (by omega));obtain⟨D,c1,c2,_,_,_⟩:=EE (A.out _ d)
  go_wp2_with fail
  refine(j _ (z.out _ k)).mono ?_;rintro e J ⟨rfl,q⟩;have n:=k.trans (q.mono k.size);clear D c1 c2 d h
  go_wp2_with fail
  refine(g _).mono ?_;rintro e K ⟨rfl,s⟩
  go_wp2
  go_ret2
  exact⟨rfl,n.trans (s.mono n.size)⟩
end
section
open Go.RowKit
def BA (i:Bool):Nat:=i.toNat
def CW (x:Ev):ByteArray:=DL x.1 x.2.1 x.2.2
def BS (l:List Ev):List UInt8:=l.flatMap fun x=>(CW x).data.toList
def HL (i:Bool)(d:Int):Bool:=if i then decide (1<=d)&&decide (d<=254) else d==0
def dcB (i:Bool)(d:Int):List UInt8:=if i then AB (if d=128 then 255 else d.toNat) 8 else []
def CS (i:Bool)(d:Int)(l:List Ev):Bool:=HL i d && !DQ (BA i) l l.length
def BE (i:Bool)(d:Int)(l:List Ev):List UInt8:=dcB i d++BS l
theorem oE (i:Bool)(d:Int):AL (dcB i d)=true:=by
 unfold dcB
 split
 ·exact I2 _ _
 ·rfl
theorem Vn (i:Bool)(d:Int):(dcB i d).length=8*BA i:=by
 unfold dcB BA;cases i
 ·rfl
 ·exact BB _ _
theorem xA (x:Ev):AL (CW x).data.toList=true:=by
 unfold CW DL
 split
 ·exact I2 _ _
 ·rfl
theorem Vv (x:Ev):(CW x).data.toList.length<=22:=by
 unfold CW DL
 split
 next h=>
  obtain⟨a,r1,_⟩:=JK.1 h;have:=R5 x.1 x.2.1.toNat x.2.2 (by omega);show (AB _ _).length<=22;rw[BB];exact this.2.1
 ·exact Ds _
theorem iG (l m:List Ev):BS (l++m)=BS l++BS m:=by simp[BS]
theorem PC (l:List Ev)(x:Ev):BS (l++[x])=BS l++(CW x).data.toList:=by simp[BS]
theorem fN (l:List Ev):AL (BS l)=true:=by
 induction l with
 |nil=>rfl
 |cons x l a=>rw[BS,G8,CO,xA,show AL (List.flatMap (fun x=>(CW x).data.toList) l)=true from a];rfl
theorem jL (l:List Ev):(BS l).length<=22*l.length:=by
 induction l with
 |nil=>exact Ba _
 |cons x l a=>
  have h1:=Vv x;have h2:(List.flatMap (fun x=>(CW x).data.toList) l).length<=22*l.length:=a;rw[BS,G8,B9,Bh];omega
theorem Z5 (i:Bool)(d:Int)(l:List Ev):AL (BE i d l)=true:=by
 unfold BE;rw[CO,oE,fN]
 rfl
theorem QC (i:Bool)(d:Int)(l:List Ev):(BE i d l).length<=8+22*l.length:=by
 have h1:=Vn i d;have h2:=jL l;have h3:BA i<=1:=by cases i <;> decide
 unfold BE;rw[B9];omega
def evI (x:Bool×Nat×Int):Ev:=(x.1,(x.2.1:Int),x.2.2)
def CX (B:List UInt8):Nat->List Ev->Nat->Nat->List Ev×Int×Nat
 |0,_,_,_=>([],7,0)
 |k+1,acc,p,m=>
  if (etk (B.drop p)).2.1≠0 then ([],(etk (B.drop p)).2.1,0) else
  if 63<m+(etk (B.drop p)).1.2.1 then ([],7,0) else
  if (etk (B.drop p)).1.1 then (acc++[evI (etk (B.drop p)).1],0,p+(etk (B.drop p)).2.2) else
  CX B k (acc++[evI (etk (B.drop p)).1]) (p+(etk (B.drop p)).2.2) (m+(etk (B.drop p)).1.2.1+1)
theorem YB {B:List UInt8}{k p m n:Nat}{acc:List Ev}{x:Bool×Nat×Int}{f:Int}(h:etk (B.drop p)=(x,f,n))(a:f≠0):CX B (k+1) acc p m=([],f,0):=by
 rw[CX,h,Bc a]
theorem Za {B:List UInt8}{k p m n r:Nat}{acc:List Ev}{l:Bool}{v:Int}(h:etk (B.drop p)=((l,r,v),0,n))(hr:63<m+r):CX B (k+1) acc p m=([],7,0):=by
 rw[CX,h,Bb (fun h=>h rfl),Bc hr]
theorem Tq {B:List UInt8}{k p m n r:Nat}{acc:List Ev}{v:Int}(h:etk (B.drop p)=((true,r,v),0,n))(hr:m+r<=63):CX B (k+1) acc p m=(acc++[(true,(r:Int),v)],0,p+n):=by
 rw[CX,h,Bb (fun h=>h rfl),Bb (by simp only;omega),Bc rfl]
 rfl
theorem Uc {B:List UInt8}{k p m n r:Nat}{acc:List Ev}{v:Int}(h:etk (B.drop p)=((false,r,v),0,n))(hr:m+r<=63):CX B (k+1) acc p m=CX B k (acc++[(false,(r:Int),v)]) (p+n) (m+r+1):=by
 rw[CX,h,Bb (fun h=>h rfl),Bb (by simp only;omega),Bb (fun h=>by cases h)]
 rfl
def dcT (b:List UInt8)(i:Bool):Int×Int×Nat:=
 if i then (if b.length<8 then (0,2,0) else if num (b.take 8)=0\/num (b.take 8)=128 then (0,7,0) else (if num (b.take 8)=255 then 128 else ((num (b.take 8):Nat):Int),0,8)) else (0,0,0)
def btk (B:List UInt8)(p:Nat)(i c:Bool):Int×List Ev×Nat×Int:=
 if (dcT (B.drop p) i).2.1≠0 then (0,[],p,(dcT (B.drop p) i).2.1) else
 if c=false then ((dcT (B.drop p) i).1,[],p+(dcT (B.drop p) i).2.2,0) else
 if (CX B (65-BA i) [] (p+(dcT (B.drop p) i).2.2) (BA i)).2.1≠0 then (0,[],p,(CX B (65-BA i) [] (p+(dcT (B.drop p) i).2.2) (BA i)).2.1) else
 ((dcT (B.drop p) i).1,(CX B (65-BA i) [] (p+(dcT (B.drop p) i).2.2) (BA i)).1,(CX B (65-BA i) [] (p+(dcT (B.drop p) i).2.2) (BA i)).2.2,0)
theorem XI {B:List UInt8}{p n:Nat}{i c:Bool}{d f:Int}(h:dcT (B.drop p) i=(d,f,n))(a:f≠0):btk B p i c=(0,[],p,f):=by
 unfold btk;rw[h,Bc a]
theorem Ti {B:List UInt8}{p n:Nat}{i:Bool}{d:Int}(h:dcT (B.drop p) i=(d,0,n)):btk B p i false=(d,[],p+n,0):=by
 unfold btk;rw[h,Bb (fun h=>h rfl),Bc rfl]
theorem Wu {B:List UInt8}{p n e:Nat}{i:Bool}{d f:Int}{l:List Ev}(h:dcT (B.drop p) i=(d,0,n))(a:CX B (65-BA i) [] (p+n) (BA i)=(l,f,e))(b:f≠0):btk B p i true=(0,[],p,f):=by
 unfold btk;rw[h,Bb (fun h=>h rfl),Bb (by decide)];simp only;rw[a,Bc b]
theorem Sv {B:List UInt8}{p n e:Nat}{i:Bool}{d:Int}{l:List Ev}(h:dcT (B.drop p) i=(d,0,n))(a:CX B (65-BA i) [] (p+n) (BA i)=(l,0,e)):btk B p i true=(d,l,e,0):=by
 unfold btk;rw[h,Bb (fun h=>h rfl),Bb (by decide)];simp only;rw[a,Bb (fun h=>h rfl)]
theorem dA (b:List UInt8):dcT b false=(0,0,0):=rfl
theorem Vg {b:List UInt8}(h:b.length<8):dcT b true=(0,2,0):=by
 unfold dcT;rw[Bc rfl,Bc h]
theorem UG {b:List UInt8}(h:8<=b.length)(hn:num (b.take 8)=0\/num (b.take 8)=128):dcT b true=(0,7,0):=by
 unfold dcT;rw[Bc rfl,Bb (by omega),Bc hn]
theorem U0 {b:List UInt8}(h:8<=b.length)(hn:num (b.take 8)=255):dcT b true=(128,0,8):=by
 unfold dcT;rw[Bc rfl,Bb (by omega),Bb (by omega),Bc hn]
theorem TJ {b:List UInt8}{v:Nat}(h:8<=b.length)(hv:num (b.take 8)=v)(a:v≠0)(h1:v≠128)(h2:v≠255):dcT b true=((v:Int),0,8):=by
 unfold dcT;rw[Bc rfl,Bb (by omega),Bb (by omega),Bb (by omega),hv]
theorem zG (p:Nat):(evT p).2.1<=63:=by
 have h:∀x∈evZ,x.2.1<=63:=by decide +kernel
 unfold evT;cases hp:evZ[p]? with
 |none=>exact Ds _
 |some x=>exact h x (Ld hp)
theorem uA {b:List UInt8}{l:Bool}{r n:Nat}{v f:Int}(h:etk b=((l,r,v),f,n)):r<=63/\n<=b.length:=by
 unfold etk at h
 split at h
 ·injection h with h1 h2;injection h1 with h1 h3;injection h3 with h3 h4;injection h2 with h2 h5;omega
 split at h
 ·split at h
  ·injection h with h1 h2;injection h1 with h1 h3;injection h3 with h3 h4;injection h2 with h2 h5;omega
  split at h
  ·injection h with h1 h2;injection h2 with h2 h5;have:=(VW (num (b.take 22))).1;rw[h1] at this;simp only at this;omega
  ·injection h with h1 h2;injection h1 with h1 h3;injection h3 with h3 h4;injection h2 with h2 h5;omega
 ·split at h
  ·injection h with h1 h2;injection h1 with h1 h3;injection h3 with h3 h4;injection h2 with h2 h5;omega
  ·injection h with h1 h2;injection h2 with h2 h5;have:=zG (gtk allT b).1.toNat;unfold NE at h1;injection h1 with h1 h3;injection h3 with h3 h4;omega
theorem rG (c d n m:Nat)(hc:c<2^n)(hd:d<2^m):AB c n++AB d m=AB (c*2^m+d) (n+m):=by
 have h:=KR (AB c n++AB d m) (by rw[CO,I2,I2];rfl);rw[B9,BB,BB,MI,BB,IF,IF,Bp hc,Bp hd] at h;exact h.symm
theorem Wk {l:Bool}{c:Nat}{a:Int}(hr:DY c a=true)(u:List UInt8):
  etk ((CW (l,(c:Int),a)).data.toList++u)=((l,c,a),0,(CW (l,(c:Int),a)).data.toList.length):=by
 obtain⟨r,v⟩:=Ah (CW (l,(c:Int),a));rw[v];unfold CW at v;simp only at v;obtain⟨B,r1,C,D,E⟩:=JK.1 hr;obtain⟨f1,f2,f3⟩:=R5 l c a (by omega);have h:r.data.toList=AB (DD l c a) (DC l c a):=by
  rw[<-v];unfold DL;rw[Bc hr,Dr]
 have j:r.data.toList.length=DC l c a:=by rw[h,BB]
 have d:(r.data.toList++u).take (DC l c a)=r.data.toList:=by rw[<-j,Di]
 have q:DC l c a<=(r.data.toList++u).length:=by rw[B9];omega
 have k:num r.data.toList=DD l c a:=by rw[h,IF,Bp f3]
 rw[j];obtain⟨b,o⟩:=Ah (r.data.toList++u);rw[o] at d q ⊢;cases hin:inT l c a.natAbs with
 |true=>
  have x:=Py (by omega) hin;have s:=fW (by omega) hin;have f:DD l c a=2*DK (plT l c a.natAbs)+(if a<0 then 1 else 0):=by unfold DD;rw[hin,Bc rfl]
  have e:DC l c a=AU (plT l c a.natAbs)+1:=by unfold DC;rw[hin,Bc rfl]
  generalize plT l c a.natAbs=p at x s f e;obtain⟨y,F,b2,_⟩:=IY p (by omega);have hs:(if a<0 then 1 else 0:Nat)<2:=by split <;> decide
  have g:(AC (HK p)).isPrefixOf b=true:=by
   rw[<-o,h,f,e,Xa,C9,<-rG _ _ _ 1 b2 hs,Bd,Jq];exact Ka _ _
  have w:=Qc Rn (Q8 (show p<103 by omega)) (by rw[K3];exact y) (by rw[K3];omega) g;rw[K3] at w;have ht:=Uf (i:=p) (n:=AU p) w (by omega) (by rw[<-e];exact q);rw[<-e,d,k,s,f] at ht;rw[ht];unfold NE;by_cases m:a<0
  ·rw[Bc m,show (2*DK p+1)%2=1 by omega];simp only[Jg,Kg];rw[show -((a.natAbs:Nat):Int)=a by omega]
  ·rw[Bb m,show (2*DK p+0)%2=0 by omega];simp only[show ((0:Nat)==1)=false from rfl,K8,J9];rw[show ((a.natAbs:Nat):Int)=a by omega]
 |false=>
  have f:DD l c a=((6+l.toNat)*64+c)*256+(a%256).toNat:=by unfold DD;rw[hin,Bb (by decide)]
  have e:DC l c a=22:=by unfold DC;rw[hin,Bb (by decide)]
  have z:l.toNat<=1:=by cases l <;> decide
  have g:(AC (HK 102)).isPrefixOf b=true:=by
   have A:(AB (DD l c a) 22).take 7=AC (HK 102):=by
    rw[RT _ _ _ (by decide),show DD l c a / 2^(22-7)=3 by rw[f];omega]
    decide +kernel
   rw[<-o,h,e,<-A,Jq];exact(Kj 7 _).trans (Ka _ _)
  have w:=Qc Rn (Q8 (show 102<103 by decide)) (by decide +kernel) (by decide +kernel) g;have ht:=UU (n:=(AC (HK 102)).length) w (by omega);rw[<-e,d,k] at ht;have t:EW (DD l c a)=(l,c,a):=by
   rw[f];unfold EW;rw[show (((6+l.toNat)*64+c)*256+(a%256).toNat) / 16384%2=l.toNat by omega,show (((6+l.toNat)*64+c)*256+(a%256).toNat) / 256%64=c by omega,show (((6+l.toNat)*64+c)*256+(a%256).toNat)%256=(a%256).toNat by omega];rw[show (l.toNat==1)=l by cases l <;> rfl]
   congr 2
   split <;> omega
  rw[t] at ht;simp only[hr,hin,Kl,Lg,Kg] at ht;rw[ht]
theorem Tf {A C:List UInt8}{p:Nat}(h:p=A.length):(A++C).drop p=C:=by rw[h,List.drop_left]
theorem Xc {a:Nat}{l:List Ev}(hl:DQ a l l.length=false)(A C:List UInt8)(p:0<l.length):∀j,j<l.length->
  (lvS a (l.take j)).1<=63/\∃k,65<=k+(lvS a (l.take j)).1/\CX (A++BS l++C) (65-a) [] A.length a=CX (A++BS l++C) k (l.take j) (A.length+(BS (l.take j)).length) (lvS a (l.take j)).1
 |0,hj=>by
  have c:=Pu hl hj;unfold EN at c;simp only[Fh,L8] at c;obtain⟨_,hn⟩:=c;rw[Bi] at hn ⊢;exact⟨by omega,65-a,by show 65<=65-a+a;omega,rfl⟩
 |j+1,hj=>by
  obtain⟨f,k,g,q⟩:=Xc hl A C p j (by omega);have c:=Pu hl (show j<l.length by omega);have d:=Pu hl hj;have hm:=Rh a l (show j<l.length by omega);have ht:l.take (j+1)=l.take j++[l[j]'(by omega)]:=Be (by omega);have hcut:A++BS l++C=(A++BS (l.take j))++((CW (l[j]'(by omega))).data.toList++(BS (l.drop (j+1))++C)):=by
   have:BS l=BS (l.take j)++((CW (l[j]'(by omega))).data.toList++BS (l.drop (j+1))):=by
    have e:BS (l.take (j+1)++l.drop (j+1))=BS (l.take j)++((CW (l[j]'(by omega))).data.toList++BS (l.drop (j+1))):=by
     rw[ht,iG,PC,Bd]
    rwa [Bs] at e
   rw[this];simp only[Bd]
  unfold EN at c d;simp only[Fh,L8,Bm] at c d;obtain⟨⟨hr,b⟩,hn⟩:=c;obtain⟨⟨_,_⟩,hn2⟩:=d;refine⟨by omega,?_⟩;rw[q,hm,ht,PC,B9];obtain⟨⟨s,i,o⟩,t⟩:=Ah (l[j]'(by omega));rw[t] at hr b hn hcut hm ⊢;simp only at hr b hn ⊢;obtain⟨r,rfl⟩:∃r:Nat,i=(r:Int):=⟨i.toNat,by have:=(JK.1 hr).1;omega⟩
  have h:s=false:=by rw[b];simp;omega
  subst h;rw[Dr] at hn ⊢;generalize (lvS a (l.take j)).1=m at f hn g ⊢;have u:=Wk (l:=false) hr (BS (l.drop (j+1))++C);obtain⟨k,rfl⟩:∃w,k=w+1:=⟨k-1,by omega⟩;refine⟨k,by omega,?_⟩;rw[Uc (r:=r) (v:=o) (n:=(CW (false,(r:Int),o)).data.toList.length) (by rw[hcut,Tf (by rw[B9]),u]) (by omega),Bz]
theorem Qby {a:Nat}{l:List Ev}(hl:DQ a l l.length=false)(A C:List UInt8)(q:0<l.length):
  CX (A++BS l++C) (65-a) [] A.length a=(l,0,A.length+(BS l).length):=by
 obtain⟨j,hj⟩:∃j,l.length=j+1:=⟨l.length-1,by omega⟩;have c:j<l.length:=by omega
 obtain⟨f,k,g,s⟩:=Xc hl A C q j c;have h:=Pu hl c;have ht:l=l.take j++[l[j]]:=by
  conv=>lhs;rw[<-Js (l:=l),hj,Be c]
 have hcut:A++BS l++C=(A++BS (l.take j))++((CW l[j]).data.toList++C):=by
  have:BS l=BS (l.take j)++(CW l[j]).data.toList:=by
   conv=>lhs;rw[ht]
   rw[PC]
  rw[this];simp only[Bd]
 have d:(BS l).length=(BS (l.take j)).length+(CW l[j]).data.toList.length:=by
  conv=>lhs;rw[ht]
  rw[PC,B9]
 unfold EN at h;simp only[Fh,L8,Bm] at h;obtain⟨⟨hr,b⟩,hn⟩:=h;rw[s];have e:l.take j++[l[j]]=l:=ht.symm;obtain⟨⟨t,o,p⟩,u⟩:=Ah (l[j]);rw[u] at hr b hn hcut d e;simp only at hr b hn;obtain⟨r,rfl⟩:∃r:Nat,o=(r:Int):=⟨o.toNat,by have:=(JK.1 hr).1;omega⟩;have i:t=true:=by rw[b];simp;omega
 subst i;rw[Dr] at hn;generalize (lvS a (l.take j)).1=m at f hn g;have w:=Wk (l:=true) hr C;obtain⟨k,rfl⟩:∃x,k=x+1:=⟨k-1,by omega⟩;rw[Tq (r:=r) (v:=p) (n:=(CW (true,(r:Int),p)).data.toList.length) (by rw[hcut,Tf (by rw[B9]),w]) (by omega),e,d,Bz]
theorem fG {i:Bool}{d:Int}{l:List Ev}(hm:CS i d l=true)(A C:List UInt8):
  btk (A++BE i d l++C) A.length i (decide (0<l.length))=(d,l,A.length+(BE i d l).length,0):=by
 unfold CS at hm;rw[Fh,Lc] at hm;obtain⟨hd,hl⟩:=hm;have c:dcT ((A++BE i d l++C).drop A.length) i=(d,0,(dcB i d).length):=by
  rw[Bd,Tf rfl];unfold BE;rw[Bd];cases i with
  |false=>
   have:d=0:=by simpa [HL] using hd
   subst this
   rfl
  |true=>
   have m:1<=d/\d<=254:=by simpa [HL] using hd
   have e:=Vn true d;have k:(dcB true d).length=8:=e;have f:(dcB true d++(BS l++C)).take 8=dcB true d:=by rw[<-k,Di]
   have g:8<=(dcB true d++(BS l++C)).length:=by rw[B9];omega
   have a:num (dcB true d)=if d=128 then 255 else d.toNat:=by
    unfold dcB;rw[Bc rfl,IF,Bp]
    split <;> omega
   rw[k];by_cases b:d=128
   ·subst b;exact U0 g (by rw[f,a,Bc rfl])
   ·rw[Bb b] at a;rw[TJ g (by rw[f,a]) (by omega) (by omega) (by omega)];rw[Ce (by omega)]
 have h:(BE i d l).length=(dcB i d).length+(BS l).length:=by unfold BE;rw[B9]
 by_cases j:0<l.length
 ·rw[Kn j];have:=Qby hl (A++dcB i d) C j;rw[B9] at this;rw[Sv c (by rw[show A++BE i d l++C=A++dcB i d++BS l++C by unfold BE;simp only[Bd]];exact this),h,Bz]
 ·rw[Km j];have hn:l=[]:=Dl (by omega);subst hn;rw[Ti c,h]
  rfl
theorem oG {d:Int}:HL false d=(d==0):=rfl
theorem Wc {d:Int}:HL true d=(decide (1<=d)&&decide (d<=254)):=rfl
theorem OH {a:Nat}{l:List Ev}(h:DQ a l l.length=false):l.length<=64:=by
 have b:∀j,j<=l.length->j<=(lvS a (l.take j)).1:=by
  intro j
  induction j with
  |zero=>intro _;exact Ds _
  |succ j d=>
   intro hj;have h1:=d (by omega);have h2:=Rh a l (show j<l.length by omega);rw[h2];simp only;omega
 by_cases c:l.length<=64
 ·exact c
 ·exfalso;have h1:=Pu h (show 64<l.length by omega);have h2:=b 64 (by omega);unfold EN at h1;simp only[Fh,L8] at h1;omega
theorem kB {a:Nat}{l:List Ev}(h:DQ a l l.length=false){j:Nat}(hj:j<l.length):DY l[j].2.1 l[j].2.2=true:=by
 have h1:=Pu h hj;unfold EN at h1;simp only[Fh] at h1;exact h1.1.1
theorem Po {i:Bool}{d:Int}{l:List Ev}(h:CS i d l=true):HL i d=true/\DQ (BA i) l l.length=false:=by
 unfold CS at h;rw[Fh,Lc] at h;exact h
theorem W4 {i:Bool}{l:List Ev}(h:DQ (BA i) l l.length=false):(lvG l ((BA i:Nat):Int)).2=0:=by
 unfold lvG;rw[Bc (by cases i;exact .inl rfl;exact .inr rfl),Dr,Bb (by rw[h];decide)]
theorem XO {i:Bool}{l:List Ev}(h:DQ (BA i) l l.length=true):(lvG l ((BA i:Nat):Int)).2=7:=by
 unfold lvG;rw[Bc (by cases i;exact .inl rfl;exact .inr rfl),Dr,Bc h]
theorem Vj (B:List UInt8):∀(k:Nat) (acc:List Ev) (p m:Nat),(CX B k acc p m).1.length<=acc.length+k
 |0,acc,p,m=>Ds _
 |k+1,acc,p,m=>by
  rw[CX]
  split
  ·exact Ds _
  split
  ·exact Ds _
  split
  ·simp only[B9,Bh,By];omega
  ·refine Eg (Vj B k _ _ _) ?_;simp only[B9,Bh,By];omega
theorem oM (B:List UInt8)(p:Nat)(i c:Bool):(btk B p i c).2.1.length<=65:=by
 unfold btk
 split
 ·exact Ds _
 split
 ·exact Ds _
 split
 ·exact Ds _
 ·refine Eg (Vj _ _ _ _ _) ?_;simp
def EvR (S:List UInt8)(a p:Nat)(acc:List Ev)(m t:Nat):Prop:=∃k,65<=k+m/\CX S (65-a) [] p a=CX S k acc t m
theorem EvR.first (S:List UInt8)(a p:Nat):EvR S a p [] a p:=⟨65-a,by omega,rfl⟩
theorem EvR.err {S:List UInt8}{a p m t n:Nat}{acc:List Ev}{x:Bool×Nat×Int}{f:Int}(h:EvR S a p acc m t)(hm:m<=64)(b:etk (S.drop t)=(x,f,n))(c:f≠0):CX S (65-a) [] p a=([],f,0):=by
 obtain⟨k,e,h⟩:=h;obtain⟨k,rfl⟩:∃d,k=d+1:=⟨k-1,by omega⟩;rw[h,YB b c]
theorem EvR.far {S:List UInt8}{a p m t n r:Nat}{acc:List Ev}{l:Bool}{v:Int}(h:EvR S a p acc m t)(hm:m<=64)(b:etk (S.drop t)=((l,r,v),0,n))(hr:63<m+r):CX S (65-a) [] p a=([],7,0):=by
 obtain⟨k,d,h⟩:=h;obtain⟨k,rfl⟩:∃c,k=c+1:=⟨k-1,by omega⟩;rw[h,Za b hr]
theorem EvR.end {S:List UInt8}{a p m t n r:Nat}{acc:List Ev}{v:Int}(h:EvR S a p acc m t)(_:m<=64)(b:etk (S.drop t)=((true,r,v),0,n))(hr:m+r<=63):CX S (65-a) [] p a=(acc++[(true,(r:Int),v)],0,t+n):=by
 obtain⟨k,d,h⟩:=h;obtain⟨k,rfl⟩:∃c,k=c+1:=⟨k-1,by omega⟩;rw[h,Tq b hr]
theorem EvR.on {S:List UInt8}{a p m t n r:Nat}{acc:List Ev}{v:Int}(h:EvR S a p acc m t)(_:m<=64)(b:etk (S.drop t)=((false,r,v),0,n))(hr:m+r<=63):EvR S a p (acc++[(false,(r:Int),v)]) (m+r+1) (t+n):=by
 obtain⟨k,d,h⟩:=h;obtain⟨k,rfl⟩:∃c,k=c+1:=⟨k-1,by omega⟩;exact⟨k,by omega,by rw[h,Uc b hr]⟩
theorem TI (i:Bool)(w:A5):A9 prog 206 #[.bool i] w fun e a=>e=.returned (.int .i64 (BA i:Nat))/\w=a:=by
 cases i
 all_goals
  go_enter func206,ntmps206
  go_wp2
  go_ret
  exact⟨rfl,rfl⟩
def EK (B:Nat)(q:Option Aa):Prop:=∀x,q=some x->B<=x.block
theorem EK.none (B:Nat):EK B none:=fun _ h=>by cases h
theorem EK.mono {A B:Nat}{q:Option Aa}(h:EK B q)(a:A<=B):EK A q:=fun x b=>Eg a (h x b)
theorem dW {w:A5}{B e c n k:Nat}{q:Option Aa}{l:List Value}{m:Nat}(h:w.ownsRow B e c (.slice q n k) m l):EK B q:=fun x a=>(h.lt x.block (by rw[a];rfl)).1
end
section
def AD (k:Int):Bool:=k==3 || k==4
def OC (k:Int):Bool:=k==1 || k==4
def H3 (inter:Bool):List UInt8:=if inter then [48] else []
def K7 (inter:Bool):List UInt8:=H3 inter++(AY inter 5 0).data.toList
def D5 (inter:Bool)(n:Nat):List UInt8:=(List.replicate n (K7 inter)).flatten
theorem MP (inter:Bool)(n:Nat):D5 inter (n+1)=K7 inter++D5 inter n:=rfl
def CG (c:Cel)(i:Nat):Nat:=(decide (0<(c.ev i).length)).toNat
theorem Rk (c:Cel)(i:Nat):CG c i<=1:=by unfold CG;cases decide (0<(c.ev i).length) <;> decide
def B2 (c:Cel):Nat->Nat
 |0=>0
 |i+1=>2*B2 c i+CG c i
def BU (c:Cel):Nat:=2*CG c 4+CG c 5
theorem QJ (c:Cel):B2 c 4=8*CG c 0+4*CG c 1+2*CG c 2+CG c 3:=by
 simp only[B2];omega
theorem RF (c:Cel):B2 c 6=4*B2 c 4+BU c:=by
 simp only[B2,BU];omega
theorem Rr (c:Cel):B2 c 4<16/\BU c<4/\B2 c 6<64:=by
 have h:=fun i=>Rk c i;have a:=h 0;have h1:=h 1;have h2:=h 2;have h3:=h 3;have h4:=h 4;have b:=h 5;rw[RF,QJ];unfold BU;omega
def IR (k x y mx my:Int):List UInt8:=if AD k then [] else (B3 (AF (mx-AF x))).data.toList++(B3 (AF (my-AF y))).data.toList
def BC (c:Cel):Nat->List UInt8
 |0=>[]
 |i+1=>BC c i++BE (AD c.kind) (c.dc i) (c.ev i)
def CQ (inter:Bool)(x y:Int)(c:Cel):List UInt8:=
 D5 inter c.stuff.toNat++(if c.skip then [49] else H3 inter++(AY inter c.kind (BU c:Nat)).data.toList++(DF (AD c.kind) (B2 c 4:Nat)).data.toList++(C0 c.step).data.toList++IR c.kind x y c.mx c.my++BC c 6)
def FY (c:Cel):Bool:=(c.kind==0&&c.step==0&&(c.mx==0&&c.my==0))&&((List.range 6).all (fun i=>c.dc i==0)&&(List.range 6).all (fun i=>decide ((c.ev i).length=0)))
def EJ (inter:Bool)(k:Int):Bool:=(k==3 || k==4) || (inter&&(k==0 || k==1))
def FA (k s:Int):Bool:=if OC k then !(C0 s).data.toList.isEmpty else s==0
def HJ (k mx my:Int):Bool:=if AD k then mx==0&&my==0 else mx==AF mx&&my==AF my
def EY (c:Cel):Bool:=(List.range 6).all fun i=>CS (AD c.kind) (c.dc i) (c.ev i)
def BL (inter:Bool)(c:Cel):Bool:=
 (decide (0<=c.stuff)&&decide (c.stuff<=64))&&(if c.skip then inter&&FY c else (EJ inter c.kind&&FA c.kind c.step)&&(HJ c.kind c.mx c.my&&EY c))
theorem QL {s:Int}:(C0 s).data.toList.isEmpty=false↔(s = -1\/s = -2\/s=1\/s=2):=by
 unfold C0;by_cases h1:s = -1
 ·simp[h1]
 by_cases h2:s = -2
 ·simp[h2]
 by_cases h3:s=1
 ·simp[h3]
 by_cases h4:s=2
 ·simp[h4]
 simp[h1,h2,h3,h4]
theorem NV {c:Cel}:EY c=true↔∀i,i<6->CS (AD c.kind) (c.dc i) (c.ev i)=true:=by
 unfold EY;rw[Bu];exact⟨fun h i hi=>h i (Bt.2 hi),fun h i hi=>h i (Bt.1 hi)⟩
theorem IK (n:Int):-32<=AF n/\AF n<=31:=by unfold AF;omega
theorem Lf {n:Int}:n=AF n↔(-32<=n/\n<=31):=by unfold AF;omega
theorem NR (inter:Bool)(k c:Int):AL (AY inter k c).data.toList=true/\(AY inter k c).data.toList.length<=9:=by
 have a:∀l:List ByteArray,(∀x∈l,AL x.data.toList=true/\x.data.toList.length<=9)->AL (l[c.toNat]?.getD ⟨#[]⟩).data.toList=true/\(l[c.toNat]?.getD ⟨#[]⟩).data.toList.length<=9:=by
  intro l hl;cases hx:l[c.toNat]? with
  |none=>exact⟨rfl,Ds _⟩
  |some x=>exact hl x (Ld hx)
 unfold AY
 split
 ·refine a _ ?_;cases inter with
  |true=>
   show∀x∈LH k,_;unfold LH
   repeat' split
   all_goals decide +kernel
  |false=>
   show∀x∈L3 k,_;unfold L3
   repeat' split
   all_goals decide +kernel
 ·exact⟨rfl,Ds _⟩
theorem QK (intra:Bool)(k:Int):AL (DF intra k).data.toList=true/\(DF intra k).data.toList.length<=6:=by
 have hl:∀x∈EH,AL x.data.toList=true/\x.data.toList.length<=6:=by decide +kernel
 unfold DF
 split
 ·cases hx:EH[EM intra k.toNat]? with
  |none=>exact⟨rfl,Ds _⟩
  |some x=>exact hl x (Ld hx)
 ·exact⟨rfl,Ds _⟩
theorem QB (s:Int):AL (C0 s).data.toList=true/\(C0 s).data.toList.length<=2:=by
 unfold C0
 repeat' split
 all_goals exact⟨rfl,by decide⟩
theorem P2 (d:Int):AL (B3 d).data.toList=true/\(B3 d).data.toList.length<=13:=by
 by_cases h:-32<=d/\d<=31
 ·rw[Sc h];have:=Sk h;exact⟨I2 _ _,by show (AB _ _).length<=13;rw[BB];omega⟩
 ·rw[Qu (by omega)];exact⟨rfl,Ds _⟩
theorem Z4 (k x y mx my:Int):AL (IR k x y mx my)=true/\(IR k x y mx my).length<=26:=by
 unfold IR
 split
 ·exact⟨rfl,Ds _⟩
 ·have h1:=P2 (AF (mx-AF x));have h2:=P2 (AF (my-AF y));exact⟨by rw[CO,h1.1,h2.1];rfl,by rw[B9];omega⟩
theorem PV (inter:Bool):AL (H3 inter)=true/\(H3 inter).length<=1:=by cases inter <;> decide
theorem Xm (inter:Bool):AL (K7 inter)=true/\(K7 inter).length<=10:=by
 have h1:=PV inter;have h2:=NR inter 5 0;unfold K7;exact⟨by rw[CO,h1.1,h2.1];rfl,by rw[B9];omega⟩
theorem Qb (inter:Bool):∀n,AL (D5 inter n)=true/\(D5 inter n).length<=10*n
 |0=>⟨rfl,Ba _⟩
 |n+1=>by
  have h1:=Xm inter;have h2:=Qb inter n;rw[MP];exact⟨by rw[CO,h1.1,h2.1];rfl,by rw[B9];omega⟩
theorem W2 (c:Cel):∀i,AL (BC c i)=true
 |0=>rfl
 |i+1=>by
  show AL (BC c i++BE (AD c.kind) (c.dc i) (c.ev i))=true;rw[CO,W2 c i,Z5]
  rfl
theorem QR {c:Cel}{n:Nat}:∀i,(∀j,j<i->(c.ev j).length<=n)->(BC c i).length<=(8+22*n)*i
 |0,_=>Ba _
 |i+1,h=>by
  have h1:=QR i fun j hj=>h j (by omega);have h2:=QC (AD c.kind) (c.dc i) (c.ev i);have h3:=h i (by omega);show (BC c i++BE (AD c.kind) (c.dc i) (c.ev i)).length<=_;rw[B9,Nat.mul_add,Ik];omega
theorem zK (inter:Bool)(x y:Int)(c:Cel):AL (CQ inter x y c)=true:=by
 unfold CQ;rw[CO,(Qb inter _).1,Jt]
 split
 ·rfl
 ·simp only[CO,(PV inter).1,(NR _ _ _).1,(QK _ _).1,(QB _).1,(Z4 _ _ _ _ _).1,W2,Bool.and_self]
theorem mB {inter:Bool}{x y:Int}{c:Cel}(hs:c.stuff.toNat<=64)(h:∀i,i<6->(c.ev i).length<=100):(CQ inter x y c).length<=20000:=by
 have h1:=(Qb inter c.stuff.toNat).2;have h2:=QR 6 h;have h3:=(PV inter).2;have h4:=(NR inter c.kind (BU c:Nat)).2;have a:=(QK (AD c.kind) (B2 c 4:Nat)).2;have b:=(QB c.step).2;have d:=(Z4 c.kind x y c.mx c.my).2;unfold CQ;rw[B9]
 split
 ·simp only[Bh,By];omega
 ·simp only[B9];omega
end
section
open Go.RowKit Go.Lib
theorem FZ {x:A5}{rb p:Nat}{s:ByteArray}{a:Aa}{v:Value}(h:AI x rb s p)(b:rb≠a.block):AI (x.setCell a v) rb s p:=h.grown (DM x a v) b
def zY (v n:Nat)(w:A5)(e:Ad)(a:A5):Prop:=
 ((∃i:Nat,i<103/\JW v n i=true/\e=.returned (.tuple #[.int .i64 (i:Int),.bool true]))\/((∀i,i<103->JW v n i=false)/\e=.returned (.tuple #[.int .i64 0,.bool false])))/\Below w.heap.size w a
set_option maxRecDepth 100000 in
theorem jS (v n:Nat)(hn:n<=12)(w:A5)(D:BK w):A9 prog 313 #[.int .i64 (v:Int),.int .i64 (n:Int)] w (zY v n w):=by
 have F:=Dp (fun(x:A5) (G:Below w.heap.size w x)=>(D.below G:BK x));have t:Below w.heap.size w w:=Dq _ _;clear D
 go_enter func313,ntmps313
 go_wp2
 go_loopw [9] (fun u wr=>∃i:Nat,i<=103/\u=.int .i64 i/\Below w.heap.size w wr/\Hid (∀j,j<i->JW v n j=false)) (fun u _=>103-(intOf u).toNat)
 case atStart=>exact⟨0,by omega,rfl,t,Dp (fun j h=>absurd h (Fk j))⟩
 case round=>
  clear t;obtain⟨i,hi,rfl,o,p⟩:=hrel;by_cases f:i<103
  ·have hc:=PY i f wr (F.out _ o);obtain⟨H,I,b2,b3⟩:=IY i f;clear b2;have b:JW v n i=(DK i / 2^(AU i-n)==v / 2^(n-AU i)):=rfl;have g:∀r,JW v n i=r->r=false->∀j,j<i+1->JW v n j=false:=by
    intro r h1 h2 j hj;by_cases e:j=i
    ·subst e;rw[h1,h2]
    ·exact p.out j (by omega)
   have l:=Dp g;generalize DK i=x at hc b3 b;generalize AU i=y at hc H I b;have t9:decide ((i:Int)<103)=true:=by simp;omega
   have s:=o.size;clear p g;rcases Nat.lt_trichotomy n y with q|q|q
   ·obtain⟨k,rfl⟩:∃k,y=n+k:=⟨y-n,by omega⟩;have J:0<k:=by omega
    rw[Bv,show n-(n+k)=0 by omega,Ft,Fs] at b;have z:IntKind.i64.wrap ((n:Int)+k-n)=(k:Int):=(Kp _ (by omega)).trans (by omega);have C:IntKind.i64.wrap ((n:Int)-((n:Int)+k)) = -(k:Int):=(Kp _ (by omega)).trans (by omega);have a:((x:Int) / 2^k==(v:Int))=(x / 2^k==v):=by
     rw[Jr,Bm,Bm,<-Li];simp
    cases hg:((x:Int) / 2^k==(v:Int)) with
    |true=>
     have m:=Dp (b.trans (a.symm.trans hg));clear b a
     go_wp2_with fail
     refine hc.mono ?_;rintro e A ⟨rfl,c⟩;have d:=(o.trans (c.mono s)).drew
     go_wp2
     go_region
     go_wp2
     go_ret2
     exact⟨.inl ⟨i,f,m.out,rfl⟩,d⟩
    |false=>
     have m:=Dp (b.trans (a.symm.trans hg));clear b a
     go_wp2_with fail
     refine hc.mono ?_;rintro e A ⟨rfl,c⟩;have d:=(o.trans (c.mono s)).drew
     go_wp2
     go_region
     go_wp2
     go_roundw
     case rel=>exact⟨i+1,by omega,by go_num,d,Dp (l.out _ m.out rfl)⟩
     case measure=>simp[intOf];omega
   ·subst q;rw[Ci,Ft,Fs,Fs] at b;have z:IntKind.i64.wrap ((n:Int)-n)=0:=(Kp _ (by omega)).trans (by omega);have a:((x:Int)==(v:Int))=(x==v):=by
     rw[Jr,Bm,Bm,<-Li]
    cases hg:((x:Int)==(v:Int)) with
    |true=>
     have m:=Dp (b.trans (a.symm.trans hg));clear b a
     go_wp2_with fail
     refine hc.mono ?_;rintro e A ⟨rfl,c⟩;have d:=(o.trans (c.mono s)).drew
     go_wp2
     go_region
     go_wp2
     go_ret2
     exact⟨.inl ⟨i,f,m.out,rfl⟩,d⟩
    |false=>
     have m:=Dp (b.trans (a.symm.trans hg));clear b a
     go_wp2_with fail
     refine hc.mono ?_;rintro e A ⟨rfl,c⟩;have d:=(o.trans (c.mono s)).drew
     go_wp2
     go_region
     go_wp2
     go_roundw
     case rel=>exact⟨i+1,by omega,by go_num,d,Dp (l.out _ m.out rfl)⟩
     case measure=>simp[intOf];omega
   ·obtain⟨k,B⟩:=Ah (n-y);have J:0<k:=by omega
    rw[B,show y-n=0 by omega,Ft,Fs] at b;have z:IntKind.i64.wrap ((n:Int)-y)=(k:Int):=(Kp _ (by omega)).trans (by omega);have C:IntKind.i64.wrap ((y:Int)-n) = -(k:Int):=(Kp _ (by omega)).trans (by omega);have E:k<=12:=by omega
    clear B;have a:((x:Int)==(v:Int) / 2^k)=(x==v / 2^k):=by
     rw[Jr,Bm,Bm,<-Li];simp
    cases hg:((x:Int)==(v:Int) / 2^k) with
    |true=>
     have m:=Dp (b.trans (a.symm.trans hg));clear b a
     go_wp2_with fail
     refine hc.mono ?_;rintro e A ⟨rfl,c⟩;have d:=(o.trans (c.mono s)).drew
     go_wp2
     go_region
     go_wp2
     go_ret2
     exact⟨.inl ⟨i,f,m.out,rfl⟩,d⟩
    |false=>
     have m:=Dp (b.trans (a.symm.trans hg));clear b a
     go_wp2_with fail
     refine hc.mono ?_;rintro e A ⟨rfl,c⟩;have d:=(o.trans (c.mono s)).drew
     go_wp2
     go_region
     go_wp2
     go_roundw
     case rel=>exact⟨i+1,by omega,by go_num,d,Dp (l.out _ m.out rfl)⟩
     case measure=>simp[intOf];omega
  ·obtain rfl:i=103:=by omega
   go_wp2
   go_ret2
   exact⟨.inr ⟨p.out,rfl⟩,o⟩
def vV (a:List UInt8)(w:A5)(e:Ad)(b:A5):Prop:=
 ((∃i:Nat,i<103/\gtk allT a=((i:Int),0,AU i)/\AU i<=a.length/\e=.returned (.tuple #[.int .i64 (i:Int),.int .i64 0]))\/
  (∃f:Int,f≠0/\gtk allT a=(0,f,0)/\e=.returned (.tuple #[.int .i64 0,.int .i64 f])))/\Below w.heap.size w b
theorem zU (w:A5)(rb:Nat)(s:ByteArray)(p:Nat)(Y:BK w)(hr:AI w rb s p):
  A9 prog 289 #[.pointer (some ⟨rb,0,none⟩)] w (vV ((A2 s.data.toList).drop p) w):=by
 obtain⟨K,m⟩:=Ah ((A2 s.data.toList).drop p);have U:s.data.toList.length=s.size:=rfl;have ab:=hr.2.1;have V:K.length=8*s.size-p:=by rw[<-m,Bj,BO];rfl
 have o:AL K=true:=by rw[<-m];exact FR _ _ (KS _)
 obtain⟨n,hn⟩:∃n,n=min 12 K.length:=⟨_,rfl⟩;have q:AE s.data.toList p n=num (K.take n):=by unfold AE;rw[m]
 obtain⟨v,hv⟩:=Ah (num (K.take n));have r:ask s.data.toList p (n:Int)=((v:Int),0):=by
  rw[EL (n:=(n:Int)) (by omega) (by rw[U];omega),Dr,q,hv]
 have Z:v<4294967296:=by
  have h1:=M2 K o n (by omega);have h2:2^n<=2^12:=Br (by decide) (by omega);rw[hv] at h1;omega
 have M:n<=12:=by omega
 obtain⟨N,G⟩:∃N:Int,(n:Int)=N:=⟨_,rfl⟩;have F:min 12 (8*(s.size:Int)-p)=N:=by omega
 have H:=fun x O=>jS v n M x O;rw[G] at r H;have A:=Dp r;have j:=Dp o;have L:=Dp hn;have R:=Dp hv;have S:=Dp G;have C:=fun i hi x O=>PY i hi x O;have T:=Dp (fun(x:A5) (O:Below w.heap.size w x)=>(Y.below O:BK x));have aa:=Dp F;rw[m];clear r F o hn hv m q V Y G
 go_enter func289,ntmps289
 go_wp2_with fail
 refine(PR _ _ _ _ hr).mono ?_;rintro e w1 ⟨rfl,k⟩;have D:=hr.below k;have E:=k.size;clear hr
 go_wp2_with fail
 ·obtain rfl:N=8*(s.size:Int)-p:=by have:=aa.out;omega
  refine(FU _ _ _ _ _ D).mono ?_;rintro e w2 ⟨rfl,t⟩;rw[A.out];have b:=k.trans (t.mono E);have f:=b.size;have u:=T.out _ b;clear k t E D
  go_wp2_with fail
  refine(H _ u).mono ?_;rintro e w3 ⟨⟨i,hi,a,rfl⟩|⟨I,rfl⟩,g⟩
  ·have d:=b.trans (g.mono f);have z:=d.size;have B:=T.out _ d;rw[<-R.out] at a;clear b g f u;by_cases hl:AU i<=n
   ·obtain⟨f1,f2⟩:=Yk L.out hi a j.out hl;have l:=Dp f1;have P:=Dp f2;have hc:=C i hi _ B;have W:=Dp hi;have c:(AU i:Int)<=(n:Int):=by omega
    rw[S.out] at c;clear f1 f2 a hl hi;obtain⟨y,J⟩:=Ah (AU i);rw[J] at hc c l P;have Q:=Dp J;clear J
    go_wp2_with fail
    refine hc.mono ?_;rintro e X ⟨rfl,h⟩
    go_wp2
    go_ret2
    exact⟨.inl ⟨i,W.out,by rw[Q.out];exact l.out,by rw[Q.out];exact P.out,rfl⟩,d.trans (h.mono z)⟩
   ·have l:=Dp (bD L.out hi a j.out (by omega));have hc:=C i hi _ B;have c:(n:Int)<(AU i:Int):=by omega
    rw[S.out] at c;generalize AU i=y at hc c;clear a hl hi
    go_wp2_with fail
    refine hc.mono ?_;rintro e X ⟨rfl,h⟩
    go_wp2
    go_ret2
    exact⟨.inr ⟨2,by decide,l.out,rfl⟩,d.trans (h.mono z)⟩
  ·have l:=Dp (Zv L.out (fun i hi=>by rw[R.out];exact I i hi) j.out)
   go_wp2
   go_ret2
   exact⟨.inr ⟨3,by decide,l.out,rfl⟩,b.trans (g.mono f)⟩
 ·obtain rfl:N=12:=by have:=aa.out;omega
  refine(FU _ _ _ _ _ D).mono ?_;rintro e w2 ⟨rfl,t⟩;rw[A.out];have b:=k.trans (t.mono E);have f:=b.size;have u:=T.out _ b;clear k t E D
  go_wp2_with fail
  refine(H _ u).mono ?_;rintro e w3 ⟨⟨i,hi,a,rfl⟩|⟨I,rfl⟩,g⟩
  ·have d:=b.trans (g.mono f);have z:=d.size;have B:=T.out _ d;rw[<-R.out] at a;clear b g f u;by_cases hl:AU i<=n
   ·obtain⟨f1,f2⟩:=Yk L.out hi a j.out hl;have l:=Dp f1;have P:=Dp f2;have hc:=C i hi _ B;have W:=Dp hi;have c:(AU i:Int)<=(n:Int):=by omega
    rw[S.out] at c;clear f1 f2 a hl hi;obtain⟨y,J⟩:=Ah (AU i);rw[J] at hc c l P;have Q:=Dp J;clear J
    go_wp2_with fail
    refine hc.mono ?_;rintro e X ⟨rfl,h⟩
    go_wp2
    go_ret2
    exact⟨.inl ⟨i,W.out,by rw[Q.out];exact l.out,by rw[Q.out];exact P.out,rfl⟩,d.trans (h.mono z)⟩
   ·have l:=Dp (bD L.out hi a j.out (by omega));have hc:=C i hi _ B;have c:(n:Int)<(AU i:Int):=by omega
    rw[S.out] at c;generalize AU i=y at hc c;clear a hl hi
    go_wp2_with fail
    refine hc.mono ?_;rintro e X ⟨rfl,h⟩
    go_wp2
    go_ret2
    exact⟨.inr ⟨2,by decide,l.out,rfl⟩,d.trans (h.mono z)⟩
  ·have l:=Dp (Zv L.out (fun i hi=>by rw[R.out];exact I i hi) j.out)
   go_wp2
   go_ret2
   exact⟨.inr ⟨3,by decide,l.out,rfl⟩,b.trans (g.mono f)⟩
def Qm (s:ByteArray)(rb p:Nat)(w:A5)(e:Ad)(a:A5):Prop:=
 e=.returned (.tuple #[OL (etk ((A2 s.data.toList).drop p)).1,.int .i64 (etk ((A2 s.data.toList).drop p)).2.1])/\
  AI a rb s (p+(etk ((A2 s.data.toList).drop p)).2.2)/\w.grownBy a (some rb)
theorem UN {s:ByteArray}{rb p n:Nat}{w a:A5}{l:Bool}{r:Nat}{v f:Int}(h:etk ((A2 s.data.toList).drop p)=((l,r,v),f,n))(hr:AI a rb s (p+n))(b:w.grownBy a (some rb)):
  Qm s rb p w (.returned (.tuple #[.agg #[.bool l,.int .i64 (r:Int),.int .i64 v],.int .i64 f])) a:=by
 unfold Qm;rw[h];exact⟨rfl,hr,b⟩
theorem QE {s:ByteArray}{rb p:Nat}{w a:A5}{f:Int}(h:etk ((A2 s.data.toList).drop p)=((false,0,0),f,0))(hr:AI a rb s p)(b:w.grownBy a (some rb)):
  Qm s rb p w (.returned (.tuple #[.agg #[.bool false,.int .i64 0,.int .i64 0],.int .i64 f])) a:=UN (r:=0) (n:=0) h hr b
theorem dC (w:A5)(rb:Nat)(s:ByteArray)(p:Nat)(hp:BK w)(hr:AI w rb s p):
  A9 prog 268 #[.pointer (some ⟨rb,0,none⟩)] w (Qm s rb p w):=by
 obtain⟨bs,Z⟩:=Ah ((A2 s.data.toList).drop p);have a0:s.data.toList.length=s.size:=rfl;have b7:=hr.2.1;have b3:=hr.2.2;have a1:bs.length=8*s.size-p:=by rw[<-Z,Bj,BO];rfl
 have aa:∀n,AE s.data.toList p n=num (bs.take n):=fun n=>by unfold AE;rw[Z]
 have a2:=hr.lt;obtain⟨B,hB⟩:=Ah w.heap.size;have a:rb≠B:=by omega
 obtain⟨W,ab⟩:=Ah (w.alloc (.cells #[.bool false,.int .i64 0,.int .i64 0] 153 (0,0)));have al:Below B w W:=by rw[<-ab,<-hB];exact(Dq _ w).alloc (Ba _) _
 have am:W.heap.size=B+1:=by rw[<-ab,<-hB];simp
 have a3:W.heap[B]? =some (C3 false 0 0):=by rw[<-ab,<-hB];exact heap_alloc_new w _
 have av:AI W rb s p:=hr.below (by rw[hB];exact al);have aw:BK W:=hp.below (by rw[hB];exact al);have a4:=zU W rb s p aw av;rw[Z] at a4;have a5:=Dp (fun(x:A5) (R:Below (B+1) W x)=>((R.block B (by omega)).trans a3:x.heap[B]? =some (C3 false 0 0)));have X:=Dp (fun(x:A5) (R:Below (B+1) W x)=>(av.below (by rw[am];exact R):AI x rb s p))
 have bp:=Dp (fun(x:A5) (R:Below (B+1) W x)=>(aw.below (by rw[am];exact R):BK x));have a6:=Dp (fun(x:A5) (R:Below (B+1) W x)=>(by
  have h:=al.trans (R.mono (by omega));rw[<-hB] at h;exact⟨h.os,h.tape,h.output,h.size,fun k hk _=>h.block k hk⟩:w.grownBy x (some rb)))
 have b8:=Dp hB;have Y:=Dp Z;have bq:=Dp a1;have b9:=Dp aa;have bt:=Dp ab;have b:w.heap.size<=B:=by omega
 clear hB ab al a3 av aw hp hr Z a1 aa a2
 go_enter func268,ntmps268
 go_wp2_with fail
 rw[bt.out,b8.out];refine a4.mono ?_;rintro e w2 ⟨⟨i,hi,hg,an,rfl⟩|⟨f,hf,hg,rfl⟩,d⟩
 all_goals rw[am] at d
 ·obtain⟨n,hn⟩:=Ah (if i=102 then 22 else AU i+1:Nat);have N:=TD i hi w2 (bp.out _ d);rw[hn] at N;have q:=d.size;rw[am] at q;have b4:n<=22:=by
   rw[<-hn];have:=(IY i hi).2.1
   split <;> omega
  have ca:1<=n:=by rw[<-hn];split <;> omega
  have ch:=Dp hn;have cb:=Dp hg;have ci:=Dp hi;by_cases ac:bs.length<n
  ·have F:=Dp (XV hg (by rw[hn];exact ac));have A:=Dp (show ask s.data.toList p (n:Int)=(0,2) from FM (by omega) (by rw[a0];have:=bq.out;omega));clear ac hn hg an
   go_wp2_with fail
   refine N.mono ?_;rintro e w3 ⟨rfl,c⟩;have g:=d.trans (c.mono q);have G:=X.out _ g;have t:=Eg q c.size;clear d c q
   go_wp2_with fail
   refine(FU _ _ _ _ _ G).mono ?_;rintro e w4 ⟨rfl,u⟩;rw[A.out];have j:=g.trans (u.mono t);have a7:=a5.out _ j;obtain⟨c0,c1,c2,f0,f1,f2⟩:=EE a7
   go_wp2
   refine J5 (BQ rfl _ _ B 153 _ (0,0) _ rfl (OZ a7 false 0 0) L9 rfl (by kernel_rfl)) rfl ?_;exact QE (f:=2) (by rw[Y.out];exact F.out) (FZ (FZ (FZ (X.out _ j) a) a) a) (G5 (G5 (G5 (a6.out _ j) b) b) b)
  ·have ad:n<=bs.length:=by omega
   obtain⟨v,hv⟩:=Ah (num (bs.take n));have A:=Dp (show ask s.data.toList p (n:Int)=((v:Int),0) by rw[EL (n:=(n:Int)) (by omega) (by rw[a0];have:=bq.out;omega),Dr,b9.out,hv]);by_cases T:i=102
   ·subst T;have hn2:n=22:=by rw[<-hn,Bc rfl]
    subst hn2;have A:Hid (ask s.data.toList p (22:Int)=((v:Int),0)):=Dp A.out;have Q:=UU hg ad;rw[hv] at Q;have ao:=fun x=>pK v x;obtain⟨q0,q1,q2⟩:=VW v;obtain⟨⟨l,r,y⟩,he⟩:=Ah (EW v);rw[he] at Q ao q0 q1 q2;have m:=fun x R=>Xq l r y q0 ⟨q1,q2⟩ x R;have ax:=fun x=>Sp l (r:Int) y x
    have b5:Hid (∀x,A9 prog 291 #[.int .i64 (v:Int)] x fun e w'=>e=.returned (.agg #[.bool l,.int .i64 (r:Int),.int .i64 y])/\Below x.heap.size x w'):=Dp ao;have bu:(p:Int)+22<=8*(s.size:Int):=by have:=bq.out;omega
    have bv:p<=1125899906842624:=by omega
    simp only at Q;cases hin:inT l r y.natAbs with
    |true=>
     rw[hin] at Q m;rw[Bc rfl] at m;rw[Bool.not_true,Jw,Bb (by decide)] at Q;have F:=Dp Q;generalize plT l r y.natAbs=z at m;clear ac hn hg an Q ao he hv ad ax hin
     go_wp2_with fail
     refine N.mono ?_;rintro e w3 ⟨rfl,c⟩;have g:=d.trans (c.mono q);have G:=X.out _ g;have t:=Eg q c.size;clear d c q N
     go_wp2_with fail
     refine(FU _ _ _ _ _ G).mono ?_;rintro e w4 ⟨rfl,u⟩;rw[A.out];have j:=g.trans (u.mono t);have H:=Eg t u.size;clear g u G t
     go_wp2_with fail
     refine(b5.out _).mono ?_;rintro e O ⟨rfl,I⟩;have J:=j.trans (I.mono H);have ae:=Eg H I.size
     go_wp2_with fail
     have D:=J.alloc ae (.cells #[.bool l,.int .i64 (r:Int),.int .i64 y] 153 (0,0));have M:(O.alloc (.cells #[.bool l,.int .i64 (r:Int),.int .i64 y] 153 (0,0))).heap[O.heap.size]? =some (C3 l r y):=heap_alloc_new O _;have S:(O.alloc (.cells #[.bool l,.int .i64 (r:Int),.int .i64 y] 153 (0,0))).heap.size=O.heap.size+1:=by simp
     obtain⟨C,hC⟩:=Ah O.heap.size;rw[hC] at M S ae;rw[hC];generalize O.alloc (.cells #[.bool l,.int .i64 (r:Int),.int .i64 y] 153 (0,0))=w6 at D M S ⊢;clear j I J H hC;have E:B+1<=w6.heap.size:=by omega
     have a8:rb≠C:=by have:=(X.out _ D).lt;have:=(X.out _ (Dq _ W)).lt;omega
     refine(m _ (bp.out _ D)).mono ?_;rintro e w7 ⟨rfl,o⟩;have K:=(o.block C (by omega)).trans M;have L:=D.trans (o.mono E);have af:=Eg E o.size;have a9:C<w7.heap.size:=(Ed.1 K).1;clear D o M E S m;have aq:=a5.out _ L;obtain⟨c0,c1,c2,f0,f1,f2⟩:=EE aq
     go_wp2
     refine J5 (BQ rfl _ _ B 153 _ (0,0) _ rfl (OZ aq false 0 0) L9 rfl (by kernel_rfl)) rfl ?_;exact QE (f:=7) (by rw[Y.out];exact F.out) (FZ (FZ (FZ (X.out _ L) a) a) a) (G5 (G5 (G5 (a6.out _ L) b) b) b)
    |false=>
     rw[hin] at Q m;rw[Bb (by decide)] at m;rw[Kl,Lg] at Q;have br:=Dp Q;clear ac hn hg an Q ao he hv ad hin
     go_wp2_with fail
     refine N.mono ?_;rintro e w3 ⟨rfl,c⟩;have g:=d.trans (c.mono q);have G:=X.out _ g;have t:=Eg q c.size;clear d c q N
     go_wp2_with fail
     refine(FU _ _ _ _ _ G).mono ?_;rintro e w4 ⟨rfl,u⟩;rw[A.out];have j:=g.trans (u.mono t);have H:=Eg t u.size;clear g u G t
     go_wp2_with fail
     refine(b5.out _).mono ?_;rintro e O ⟨rfl,I⟩;have J:=j.trans (I.mono H);have ae:=Eg H I.size
     go_wp2_with fail
     have D:=J.alloc ae (.cells #[.bool l,.int .i64 (r:Int),.int .i64 y] 153 (0,0));have M:(O.alloc (.cells #[.bool l,.int .i64 (r:Int),.int .i64 y] 153 (0,0))).heap[O.heap.size]? =some (C3 l r y):=heap_alloc_new O _;have S:(O.alloc (.cells #[.bool l,.int .i64 (r:Int),.int .i64 y] 153 (0,0))).heap.size=O.heap.size+1:=by simp
     obtain⟨C,hC⟩:=Ah O.heap.size;rw[hC] at M S ae;rw[hC];generalize O.alloc (.cells #[.bool l,.int .i64 (r:Int),.int .i64 y] 153 (0,0))=w6 at D M S ⊢;clear j I J H hC;have E:B+1<=w6.heap.size:=by omega
     have a8:rb≠C:=by have:=(X.out _ D).lt;have:=(X.out _ (Dq _ W)).lt;omega
     refine(m _ (bp.out _ D)).mono ?_;rintro e w7 ⟨rfl,o⟩;have K:=(o.block C (by omega)).trans M;have L:=D.trans (o.mono E);have af:=Eg E o.size;have a9:C<w7.heap.size:=(Ed.1 K).1;clear D o M E S m;obtain⟨d0,d1,d2,k0,k1,k2⟩:=EE K
     go_wp2_with fail
     refine(ax _).mono ?_;rintro e U ⟨rfl,ag⟩;have V:=(ag.block C a9).trans K;have ah:=L.trans (ag.mono af);have P:=a5.out _ ah;have ai:=X.out _ ah;have aj:=a6.out _ ah;clear d0 d1 d2 k0 k1 k2 L ag af K ax;obtain⟨c0,c1,c2,f0,f1,f2⟩:=EE P;cases hrt:DY (r:Int) y with
     |false=>
      have F:=br.out;rw[hrt,Bb (by decide)] at F;have F:=Dp F;clear br
      go_wp2
      refine J5 (BQ rfl _ _ B 153 _ (0,0) _ rfl (OZ P false 0 0) L9 rfl (by kernel_rfl)) rfl ?_;exact QE (f:=7) (by rw[Y.out];exact F.out) (FZ (FZ (FZ ai a) a) a) (G5 (G5 (G5 aj b) b) b)
     |true=>
      have F:=br.out;rw[hrt,Bc rfl] at F;have F:=Dp F;obtain⟨d0,d1,d2,_,_,_⟩:=EE V;have ap:B<U.heap.size:=(Ed.1 P).1;have ba:C<U.heap.size:=(Ed.1 V).1;clear br
      go_wp2_with fail
      have b6:AI U.drew rb s p:=ai;have bb:w.grownBy U.drew (some rb):=AR aj (KW U _);have cc:U.drew.cell? ⟨C,0,none⟩=some (.bool l):=d0;have cd:U.drew.cell? ⟨C,1,none⟩=some (.int .i64 (r:Int)):=d1;have ce:U.drew.cell? ⟨C,2,none⟩=some (.int .i64 y):=d2;have bc:U.drew.heap[B]? =some (C3 false 0 0):=P;have bd:U.drew.heap[C]? =some (C3 l r y):=V
      have bf:B<U.drew.heap.size:=ap;have bg:C<U.drew.heap.size:=ba;have cf:IntKind.i64.wrap ((p:Int)+22)=(p:Int)+22:=Kp _ (by omega);have k0:(0:Int)<=(p:Int)+22:=by omega
      have kn:((p:Int)+22).toNat=p+22:=by omega
      have bw:=Dp (fun(x:A5) (R:U.drew.grownBy x (some rb))=>((R.block B bf (by simpa using Ne.symm a)).trans bc:x.heap[B]? =some (C3 false 0 0)));have bx:=Dp (fun(x:A5) (R:U.drew.grownBy x (some rb))=>((R.block C bg (by simpa using Ne.symm a8)).trans bd:x.heap[C]? =some (C3 l r y)));clear c0 c1 c2 f0 f1 f2 d0 d1 d2 ap ba P V ai aj bc bd
      go_region_with (first
       |(go_at_call 28;refine(ED _ _ _ _ (by assumption)).mono ?_;rintro e w9 ⟨rfl,rfl⟩)
       |(go_at_call 91;refine(GH _ _ _ _ _ (by assumption) (by omega) (by omega)).mono ?_;rintro e w9 ⟨rfl,ar,ak⟩;have au:=bw.out _ ak;obtain⟨c0,c1,c2,f0,f1,f2⟩:=EE au;obtain⟨b0,b1,b2,_,_,_⟩:=EE (bx.out _ ak)))
      all_goals
       rw[kn] at ar;have bh:=AR bb ak
       go_wp2
       refine J5 (BQ rfl _ _ B 153 _ (0,0) _ rfl (OZ au l r y) L9 rfl (by kernel_rfl)) rfl ?_;exact UN (by rw[Y.out];exact F.out) (FZ (FZ (FZ ar a) a) a) (G5 (G5 (G5 bh b) b) b)
   ·have ay:AU i+1=n:=by rw[<-hn,Bb T]
    have Q:=Uf hg T (by rw[ay];exact ad);rw[ay,hv] at Q;have az:=fun x R=>pA i v (by omega) x R;obtain⟨⟨l,r,y⟩,he⟩:=Ah (NE (evT i) (v%2==1));rw[he] at Q az;have F:=Dp Q;have cg:Hid (∀x,BK x->A9 prog 290 #[.int .i64 (i:Int),.int .i64 (v:Int)] x fun e w'=>e=.returned (.agg #[.bool l,.int .i64 (r:Int),.int .i64 y])/\Below x.heap.size x w'):=Dp az
    have g0:((i:Int) != 102)=true:=by simp;omega
    have bu:(p:Int)+n<=8*(s.size:Int):=by have:=bq.out;omega
    have bv:p<=1125899906842624:=by omega
    clear ac hn hg an Q az he hv ay T ad
    go_wp2_with fail
    refine N.mono ?_;rintro e w3 ⟨rfl,c⟩;have g:=d.trans (c.mono q);have G:=X.out _ g;have t:=Eg q c.size;clear d c q N
    go_wp2_with fail
    refine(FU _ _ _ _ _ G).mono ?_;rintro e w4 ⟨rfl,u⟩;rw[A.out];have j:=g.trans (u.mono t);clear g u G t;have H:=Eg (by omega:B+1<=W.heap.size) j.size
    go_wp2_with fail
    refine(cg.out _ (bp.out _ j)).mono ?_;rintro e O ⟨rfl,I⟩;have J:=j.trans (I.mono H);have bi:=X.out _ J;have bj:=a5.out _ J;have bz:=a6.out _ J;have ap:B<O.heap.size:=(Ed.1 bj).1;clear j I H J
    go_wp2_with fail
    refine(ED _ _ _ _ bi).mono ?_;rintro e w6 ⟨rfl,rfl⟩
    go_wp2_with fail
    refine(GH _ _ _ _ _ bi (by omega) (by omega)).mono ?_;rintro e w6 ⟨rfl,bk,bl⟩;rw[show ((p:Int)+n).toNat=p+n by omega] at bk;have bm:w6.heap[B]? =some (C3 false 0 0):=(bl.block B ap (by simpa using Ne.symm a)).trans bj;have bn:=AR bz bl;obtain⟨c0,c1,c2,f0,f1,f2⟩:=EE bm
    go_wp2
    refine J5 (BQ rfl _ _ B 153 _ (0,0) _ rfl (OZ bm l r y) L9 rfl (by kernel_rfl)) rfl ?_;exact UN (by rw[Y.out];exact F.out) (FZ (FZ (FZ bk a) a) a) (G5 (G5 (G5 bn b) b) b)
 ·have F:=Dp (WF hg hf);have bo:=a5.out _ d;obtain⟨c0,c1,c2,f0,f1,f2⟩:=EE bo;have g0:(f != 0)=true:=by simpa using hf
  clear hf hg
  go_wp2
  refine J5 (BQ rfl _ _ B 153 _ (0,0) _ rfl (OZ bo false 0 0) L9 rfl (by kernel_rfl)) rfl ?_;exact QE (by rw[Y.out];exact F.out) (FZ (FZ (FZ (X.out _ d) a) a) a) (G5 (G5 (G5 (a6.out _ d) b) b) b)
theorem BK.grown {w c:A5}{rb p:Nat}{s:ByteArray}(h:BK w)(hr:AI w rb s p)(a:w.grownBy c (some rb)):BK c:=by
 have far:∀b,(∀k x,w.cell? ⟨b,0,none⟩=some (.int k x)->b≠rb):=fun b k x hc e=>by
  subst e;rw[hr.cells.1] at hc;cases hc
 have d:=far _ _ _ (h.1 0 (by decide)).1;have f:=far _ _ _ (h.1 0 (by decide)).2;have g:=far _ _ _ (h.2 0 (by decide));exact⟨fun i hi=>⟨(a.cell_far ⟨5,i,none⟩ h.lt.1 (by simpa using d)).trans (h.1 i hi).1,(a.cell_far ⟨6,i,none⟩ h.lt.2.1 (by simpa using f)).trans (h.1 i hi).2⟩,
  fun i hi=>(a.cell_far ⟨7,i,none⟩ h.lt.2.2 (by simpa using g)).trans (h.2 i hi)⟩
theorem AI.under {w a:A5}{B rb p:Nat}{s:ByteArray}(h:AI w rb s p)(b:Below B w a)(c:rb<B):AI a rb s p:=⟨by rw[b.block rb c];exact h.1,h.2⟩
def Uz (s:ByteArray)(rb p:Nat)(i:Bool)(w:A5)(e:Ad)(a:A5):Prop:=
 ∃(d f:Int) (n q:Nat),dcT ((A2 s.data.toList).drop p) i=(d,f,n)/\e=.returned (.tuple #[.int .i64 d,.int .i64 f])/\AI a rb s q/\(f=0->q=p+n)/\w.grownBy a (some rb)
theorem OF {s:ByteArray}{rb p q n:Nat}{i:Bool}{w a:A5}{d f:Int}(h:dcT ((A2 s.data.toList).drop p) i=(d,f,n))(hr:AI a rb s q)(b:f=0->q=p+n)(c:w.grownBy a (some rb)):
  Uz s rb p i w (.returned (.tuple #[.int .i64 d,.int .i64 f])) a:=⟨d,f,n,q,h,rfl,hr,b,c⟩
theorem Y4v (w:A5)(rb:Nat)(s:ByteArray)(p:Nat)(i:Bool)(hr:AI w rb s p):
  A9 prog 255 #[.pointer (some ⟨rb,0,none⟩),.bool i] w (Uz s rb p i w):=by
 have m:w.grownBy w (some rb):=BZ (Dq _ w) _;cases i with
 |false=>
  go_enter func255,Lj
  go_wp2
  go_ret2
  exact OF rfl hr (fun _=>rfl) m
 |true=>
  have q:s.data.toList.length=s.size:=rfl;have z:=hr.2.1;have r:((A2 s.data.toList).drop p).length=8*s.size-p:=by rw[Bj,BO];rfl
  have g:=JF w rb s p 8 hr;by_cases y:8*s.size<p+8
  ·have A:=FM (l:=s.data.toList) (p:=p) (n:=8) (by decide) (by rw[q];omega);have F:=Dp (Vg (b:=(A2 s.data.toList).drop p) (by omega));have Q:CF s.data.toList p 8=p:=by unfold CF;rw[A];rfl
   rw[A,Q] at g;clear m hr r y A Q
   go_enter func255,Lj
   go_wp2_with fail
   refine g.mono ?_;rintro e u ⟨rfl,a,c⟩
   go_wp2
   go_ret2
   exact OF F.out a (fun h=>by cases h) c
  ·have A:=EL (l:=s.data.toList) (p:=p) (n:=8) (by decide) (by rw[q];omega);have Q:CF s.data.toList p 8=p+8:=by unfold CF;rw[A];rfl
   obtain⟨v,hv⟩:=Ah (num (((A2 s.data.toList).drop p).take 8));have o:AE s.data.toList p (8:Int).toNat=v:=hv;have B:v<256:=by rw[<-o];exact F1 _ _ 8
   rw[A,Q,o] at g;have d:8<=((A2 s.data.toList).drop p).length:=by omega
   clear m hr r y A Q o;by_cases f:v=255
   ·subst f;have F:=Dp (U0 d hv);clear hv d
    go_enter func255,Lj
    go_wp2_with fail
    refine g.mono ?_;rintro e u ⟨rfl,a,c⟩
    go_wp2
    go_ret2
    exact OF F.out a (fun _=>rfl) c
   have k:((v:Int)==255)=false:=by rw[Fg];omega
   by_cases j:v=128
   ·subst j;have F:=Dp (UG d (.inr hv));clear hv d k f
    go_enter func255,Lj
    go_wp2_with fail
    refine g.mono ?_;rintro e u ⟨rfl,a,c⟩
    go_wp2
    go_ret2
    exact OF F.out a (fun h=>by cases h) c
   have t:((v:Int)==128)=false:=by rw[Fg];omega
   by_cases x:v=0
   ·subst x;have F:=Dp (UG d (.inl hv));clear hv d k f t j
    go_enter func255,Lj
    go_wp2_with fail
    refine g.mono ?_;rintro e u ⟨rfl,a,c⟩
    go_wp2
    go_ret2
    exact OF F.out a (fun h=>by cases h) c
   have t0:decide ((v:Int)<1)=false:=by simp;omega
   have F:=Dp (TJ d hv x j f);clear hv d f j x
   go_enter func255,Lj
   go_wp2_with fail
   refine g.mono ?_;rintro e u ⟨rfl,a,c⟩
   go_wp2
   go_ret2
   exact OF F.out a (fun _=>rfl) c
def TM (s:ByteArray)(rb p a:Nat)(w:A5)(e:Ad)(b:A5):Prop:=
 ∃(L:List Ev) (f:Int) (n t:Nat) (q:Option Aa) (c:Nat),CX (A2 s.data.toList) (65-a) [] p a=(L,f,n)/\e=.returned (.tuple #[.slice q L.length c,.int .i64 f])/\D3 b q L/\EK w.heap.size q/\AI b rb s t/\(f=0->t=n)/\w.grownBy b (some rb)
theorem SA {s:ByteArray}{rb p a n t c m:Nat}{w b:A5}{L:List Ev}{f:Int}{q:Option Aa}(h:CX (A2 s.data.toList) (65-a) [] p a=(L,f,n))(hm:L.length=m)(e:D3 b q L)(d:EK w.heap.size q)(hr:AI b rb s t)(ht:f=0->t=n)(g:w.grownBy b (some rb)):
  TM s rb p a w (.returned (.tuple #[.slice q m c,.int .i64 f])) b:=⟨L,f,n,t,q,c,h,by rw[hm],e,d,hr,ht,g⟩
set_option maxRecDepth 100000 in
theorem Y1j (w:A5)(rb:Nat)(s:ByteArray)(p a:Nat)(ha:a<=1)(hp:BK w)(hr:AI w rb s p):
  A9 prog 256 #[.pointer (some ⟨rb,0,none⟩),.int .i64 (a:Int)] w (TM s rb p a w):=by
 obtain⟨i1,hj,H,I,J⟩:=Dv sY;obtain⟨B,hB⟩:=Ah w.heap.size;have ap:rb<B:=by rw[<-hB];exact hr.lt
 have ab:w.grownBy w (some rb):=BZ (Dq _ w) _;have a3:=Dp hB;have ac:B<=w.heap.size:=by omega
 have LT:=Dp (show 5<B/\6<B/\7<B by rw[<-hB];exact hp.lt);have aq:w.heap.size<=B:=by omega
 obtain⟨S,hS⟩:=Ah (A2 s.data.toList);have ar:=Dp hS;have a4:S.length=8*s.size:=by rw[<-hS,BO];rfl
 have y:=fun x t K hy=>dC x rb s t K hy;unfold Qm at y;rw[hS] at y;have au:=Dp y;clear hB hS y
 go_enter func256,ntmps256
 go_wp2
 go_step3
 go_wp2
 go_step3
 go_wp2
 go_loopw [1,6] (fun u v wr=>∃(acc:List Ev) (m t:Nat),u=.int .i64 m/\m<=64/\acc.length<=m/\wr.ownsRow B 153 3 v acc.length (JB acc)/\EvR S a p acc m t/\AI wr rb s t/\w.grownBy wr (some rb)/\B<=wr.heap.size/\BK wr) (fun u _ _=>65-(RowKit.intOf u).toNat)
 case atStart=>exact⟨[],a,p,rfl,by omega,Ds _,Dn _ _ _ _,EvR.first _ _ _,hr,ab,ac,hp⟩
 case round=>
  clear hr ab ac hp;obtain⟨acc,m,t,rfl,hm,av,z,ad,hr,hg,hz,hT⟩:=hrel;obtain⟨⟨l,r,v⟩,f,n,c⟩:∃x f n,etk (S.drop t)=(x,f,n):=⟨_,_,_,rfl⟩;obtain⟨a2,aw⟩:=uA c;have L:=au.out _ t hT hr;rw[c] at L;simp only[OL] at L;obtain⟨al,E⟩:=Ah acc.length;have ax:=Dp E;rw[E] at z av;have A:=Dp c;have ST:=Dp ad
  have ae:=Dp (fun(x:A5) (K:wr.grownBy x (some rb))=>(⟨AR hg K,Eg hz K.size,hT.grown hr K,z.kept K (.inr fun e=>by have:=(z.lt _ e).1;omega)⟩:w.grownBy x (some rb)/\B<=x.heap.size/\BK x/\x.ownsRow B 153 3 u6 al (JB acc)));clear c aw hg hT z ad E hr
  go_wp2_with fail
  refine L.mono ?_;rintro e w1 ⟨rfl,af,ag⟩;obtain⟨ah,ai,aj,d⟩:=ae.out _ ag;clear ag L ae;obtain⟨X,hX⟩:=Ah w1.heap.size;obtain⟨wx,C⟩:=Ah (w1.alloc (.cells #[.bool l,.int .i64 (r:Int),.int .i64 v] 153 (0,0)));have M:wx.heap.size=X+1:=by rw[<-C,<-hX];simp
  have W:wx.heap[X]? =some (C3 l (r:Int) v):=by rw[<-C,<-hX];exact heap_alloc_new w1 _
  have ak:Below B w1 wx:=by rw[<-C];exact(Dq _ _).alloc ai _
  have O:wx.ownsRow B 153 3 u6 al (JB acc):=by rw[<-C];exact d.alloc _
  have Y:∀q,Value.ownBlock u6=some q->B<=q/\q<X:=fun q hq=>by have:=d.lt q hq;omega
  have ao:=Dp hX;have P:=Dp C;have am:=Dp (show B<=X by omega);have Q:=Dp (fun(x:A5) (o:Obj) (K:(wx.alloc o).grownBy x (Value.ownBlock u6))=>(by
   have hb:Below B w1 x:=(ak.alloc (by have:=am.out;omega) o).grown K (by simp;have:=am.out;omega) (fun q hq=>(Y q hq).1);have ay:x.heap[X]? =some (C3 l (r:Int) v):=by
    rw[K.block X (by simp;omega) (fun e=>by have:=(Y X e.symm).2;omega)];exact BW W
   exact⟨Y3e ah hb aq,Eg ai hb.size,aj.under hb LT.out,af.under hb ap,ay⟩:w.grownBy x (some rb)/\B<=x.heap.size/\BK x/\AI x rb s (t+n)/\x.heap[X]? =some (C3 l (r:Int) v)))
  obtain⟨c0,c1,c2,_,_,_⟩:=EE W;have a5:B<=wx.heap.size:=by omega
  clear hX C ak W Y ah aj af d;by_cases Z:f=0
  ·have g0:(f != 0)=false:=by simpa using Z
   have c:=A.out;rw[Z] at c;have A:=Dp c;clear Z c;by_cases R:63<m+r
   ·have t3:decide (63<(m:Int)+(r:Int))=true:=by simp;omega
    have F:=Dp (ST.out.far hm A.out R);clear R
    go_wp2_with (at_builtin;rw[P.out,ao.out,<-M];refine QG (y0:=l) (y1:=(r:Int)) (y2:=v) rfl rfl Le hj H rfl I J rfl (O.alloc _) rfl ?d1 ?d2 ?d3 ?d4 ?d5 ?_;(case d1=>go_cell);(case d2=>go_cell);(case d3=>go_cell);(case d4=>omega);(case d5=>(simp;omega));intro v2 w2 D b g;clear g;obtain⟨i,T,U,j,k⟩:=Q.out _ _ b;obtain⟨e0,e1,e2,_,_,_⟩:=EE k;clear b)
    rw[La]
    go_ret2
    exact SA (by rw[ar.out];exact F.out) rfl (.inl rfl) (EK.none _) j (fun h=>by cases h) i
   ·have t3:decide (63<(m:Int)+(r:Int))=false:=by simp;omega
    cases l with
    |true=>
     have F:=Dp (ST.out.end hm A.out (by omega));have V:(acc++[(true,(r:Int),v)]).length=al+1:=by rw[B9,ax.out];rfl
     have G:=Dp V;have az:=Dp (WZ acc (true,(r:Int),v));clear R V
     go_wp2_with (at_builtin;rw[P.out,ao.out,<-M];refine QG (y0:=true) (y1:=(r:Int)) (y2:=v) rfl rfl Le hj H rfl I J rfl (O.alloc _) rfl ?d1 ?d2 ?d3 ?d4 ?d5 ?_;(case d1=>go_cell);(case d2=>go_cell);(case d3=>go_cell);(case d4=>omega);(case d5=>(simp;omega));intro v2 w2 D b g;clear g;obtain⟨i,T,U,j,k⟩:=Q.out _ _ b;obtain⟨e0,e1,e2,_,_,_⟩:=EE k;clear b)
     rw[La];have aa:w2.ownsRow B 153 3 v2 (acc++[(true,(r:Int),v)]).length (JB (acc++[(true,(r:Int),v)])):=by rw[G.out,az.out];exact D
     obtain⟨q,cap,rfl,an⟩:=tU aa;have a0:=Dp an;have a1:=Dp (dW aa);rw[G.out];clear D aa an
     go_ret2
     exact SA (by rw[ar.out];exact F.out) G.out a0.out (by rw[a3.out];exact a1.out) j (fun _=>rfl) i
    |false=>
     have N:=Dp (ST.out.on hm A.out (by omega));have a6:m+r<=63:=by omega
     clear R
     go_wp2_with (at_builtin;rw[P.out,ao.out,<-M];refine QG (y0:=false) (y1:=(r:Int)) (y2:=v) rfl rfl Le hj H rfl I J rfl (O.alloc _) rfl ?d1 ?d2 ?d3 ?d4 ?d5 ?_;(case d1=>go_cell);(case d2=>go_cell);(case d3=>go_cell);(case d4=>omega);(case d5=>(simp;omega));intro v2 w2 D b g;clear g;obtain⟨i,T,U,j,k⟩:=Q.out _ _ b;obtain⟨e0,e1,e2,_,_,_⟩:=EE k;clear b)
     go_roundw
     case rel=>exact⟨acc++[(false,(r:Int),v)],m+r+1,t+n,by go_num,by omega,by rw[B9,ax.out];simp;omega,by rw[B9,WZ,ax.out];exact D,N.out,j,i,T,U⟩
     case measure=>simp[RowKit.intOf];omega
  ·have g0:(f != 0)=true:=by simpa using Z
   have F:=Dp (ST.out.err hm A.out Z);have a7:=Dp Z;clear Z
   go_wp2_with (at_builtin;rw[P.out,ao.out,<-M];refine QG (y0:=l) (y1:=(r:Int)) (y2:=v) rfl rfl Le hj H rfl I J rfl (O.alloc _) rfl ?d1 ?d2 ?d3 ?d4 ?d5 ?_;(case d1=>go_cell);(case d2=>go_cell);(case d3=>go_cell);(case d4=>omega);(case d5=>(simp;omega));intro v2 w2 D b g;clear g;obtain⟨i,T,U,j,k⟩:=Q.out _ _ b;obtain⟨e0,e1,e2,_,_,_⟩:=EE k;clear b)
   rw[La]
   go_ret2
   exact SA (by rw[ar.out];exact F.out) rfl (.inl rfl) (EK.none _) j (fun h=>absurd h a7.out) i
def Uq (s:ByteArray)(rb p:Nat)(i c:Bool)(w:A5)(e:Ad)(a:A5):Prop:=
 ∃(d:Int) (L:List Ev) (f:Int) (t m:Nat) (q:Option Aa) (cap:Nat),e=.returned (.tuple #[.int .i64 d,.slice q m cap,.int .i64 f])/\L.length=m/\D3 a q L/\EK w.heap.size q/\AI a rb s t/\w.grownBy a (some rb)/\(f=0->btk (A2 s.data.toList) p i c=(d,L,t,0))/\(f≠0->btk (A2 s.data.toList) p i c=(0,[],p,f))
theorem kX (w:A5)(rb:Nat)(s:ByteArray)(p:Nat)(i c:Bool)(M:BK w)(hr:AI w rb s p):
  A9 prog 241 #[.pointer (some ⟨rb,0,none⟩),.bool i,.bool c] w (Uq s rb p i c w):=by
 have l:=Y4v w rb s p i hr;have r:=fun x=>TI i x;have N:BA i<=1:=by cases i <;> decide
 have b:=fun x p B R=>Y1j x rb s p (BA i) N B R;obtain⟨S,t⟩:=Ah (A2 s.data.toList);have ab:=Dp t;have T:=Dp (fun(x:A5) (B:w.grownBy x (some rb))=>(M.grown hr B:BK x));unfold Uq;rw[t];unfold Uz at l;rw[t] at l;unfold TM at b;rw[t] at b
 have O:=Dp (fun(d:Int) (n:Nat) (L:List Ev) (f:Int) (e:Nat) (h:dcT (S.drop p) i=(d,0,n)) (P:CX S (65-BA i) [] (p+n) (BA i)=(L,f,e))=>(⟨fun g=>Wu h P g,fun g=>Sv h (by rw[P,g])⟩:(f≠0->btk S p i true=(0,[],p,f))/\(f=0->btk S p i true=(d,L,e,0))));generalize BA i=a at r b O N;have U:=Dp b;clear M hr t b
 go_enter func241,ntmps241
 go_wp2_with fail
 refine l.mono ?_;rintro e w1 ⟨d,f,n,q,j,rfl,o,A,k⟩;have C:=T.out _ k;have u:=Dp j;have V:=Dp A;clear j A l;by_cases g:f=0
 ·have W:(f != 0)=false:=by simpa using g
  have A:=V.out g;have j:=u.out;rw[g] at j;subst A;have u:=Dp j;have D:=Dp g;clear j g;cases c with
  |false=>
   have F:=Dp (Ti u.out)
   go_wp2
   go_ret3
   exact⟨d,[],f,p+n,0,none,0,rfl,rfl,.inl rfl,EK.none _,o,k,fun _=>F.out,fun h=>absurd D.out h⟩
  |true=>
   go_wp2_with fail
   refine(r _).mono ?_;rintro e X ⟨rfl,rfl⟩
   go_wp2_with fail
   refine(U.out _ _ C o).mono ?_;rintro e X ⟨L,f2,Y,t2,Z,c2,v,rfl,b,y,E,z,G⟩;have Q:=Dp (O.out d n L f2 Y u.out v);have H:=Dp z;have I:=Dp b;have J:=Dp (y.mono k.size);have K:=AR k G;clear v z b y;obtain⟨m,hm⟩:=Ah L.length;have aa:=Dp hm;rw[hm];clear hm
   go_wp2
   go_ret3
   exact⟨d,L,f2,t2,m,Z,c2,rfl,aa.out,I.out,J.out,E,K,fun h=>by rw[H.out h];exact Q.out.2 h,Q.out.1⟩
 ·have W:(f != 0)=true:=by simpa using g
  have F:=Dp (XI (c:=c) u.out g);have D:=Dp g;clear g
  go_wp2
  go_ret3
  exact⟨d,[],f,q,0,none,0,rfl,rfl,.inl rfl,EK.none _,o,k,fun h=>absurd h D.out,fun _=>F.out⟩
def Ss (s:ByteArray)(rb p:Nat)(i c:Bool)(w:A5)(e:Ad)(a:A5):Prop:=
 ∃(d:Int) (L:List Ev) (f:Int) (t m:Nat) (q:Option Aa) (cap:Nat),btk (A2 s.data.toList) p i c=(d,L,t,f)/\e=.returned (.tuple #[.int .i64 d,.slice q m cap,.int .i64 f])/\L.length=m/\D3 a q L/\AI a rb s t/\w.grownBy a (some rb)/\EK w.heap.size q
theorem vZ (w:A5)(rb:Nat)(s:ByteArray)(p:Nat)(i c:Bool)(z:BK w)(hr:AI w rb s p):
  A9 prog 230 #[.pointer (some ⟨rb,0,none⟩),.bool i,.bool c] w (Ss s rb p i c w):=by
 have a:=kX w rb s p i c z hr;have A:=hr.2.1;have b:=ED w rb s p hr;unfold Uq at a;unfold Ss;generalize B:A2 s.data.toList=S at a ⊢;clear B z hr
 go_enter func230,ntmps230
 go_wp2_with fail
 refine b.mono ?_;rintro e C ⟨rfl,rfl⟩
 go_wp2_with fail
 refine a.mono ?_;rintro e C ⟨d,L,f,t,m,q,cap,rfl,hm,g,h,n,o,j,k⟩;have D:=Dp hm;have u:=Dp g;have v:=Dp h;by_cases l:f=0
 ·have E:(f != 0)=false:=by simpa using l
  have F:=Dp (j l);clear l j k hm g b a h
  go_wp2
  go_ret3
  exact⟨d,L,0,t,m,q,cap,F.out,rfl,D.out,u.out,n,o,v.out⟩
 ·have E:(f != 0)=true:=by simpa using l
  have F:=Dp (k l);clear l j k hm g b a h
  go_wp2_with fail
  refine(GH _ _ _ _ (p:Int) n (by omega) (by omega)).mono ?_;rintro e G ⟨rfl,r,x⟩;rw[Dr] at r;have y:=AR o x
  go_wp2
  go_ret3
  exact⟨0,[],f,p,0,none,0,F.out,rfl,rfl,.inl rfl,r,y,EK.none _⟩
theorem Ul (k:Int)(w:A5):A9 prog 52 #[.int .i64 k] w fun e a=>e=.returned (.bool (AD k))/\w=a:=by
 cases h3:(k==3) with
 |true=>
  go_enter func52,ntmps52
  go_wp2
  go_ret
  exact⟨AH (by simp[AD,h3]),rfl⟩
 |false=>
  cases h4:(k==4) with
  |true=>
   go_enter func52,ntmps52
   go_wp2
   go_ret
   exact⟨AH (by simp[AD,h3,h4]),rfl⟩
  |false=>
   go_enter func52,ntmps52
   go_wp2
   go_ret
   exact⟨AH (by simp[AD,h3,h4]),rfl⟩
def O3:List ByteArray:=[⟨#[49,48,32,49,49,49,49,32,48,49,48,49,48,49,32,48,48,49,48,49,49,49,32,48,48,48,49,49,49,49,49,32,48,48,48,49,48,48,49,48,49,32,48,48,48,49,48,48,49,48,48,32,48,48,48,48,49,48,48,48,48,49,32,48,48,48,48,49,48,48,48,48,48,32,48,48,48,48,48,48,48,48,49,49,49,32,48,48,48,48,48,48,48,48,49,49,48,32,48,48,48,48,48,49,48,48,48,48,48]⟩,⟨#[49,49,48,32,48,49,48,49,48,48,32,48,48,48,49,49,49,49,48,32,48,48,48,48,48,48,49,49,49,49,32,48,48,48,48,48,49,48,48,48,48,49,32,48,48,48,48,48,49,48,49,48,48,48,48]⟩,⟨#[49,49,49,48,32,48,48,48,49,49,49,48,49,32,48,48,48,48,48,48,49,49,49,48,32,48,48,48,48,48,49,48,49,48,48,48,49]⟩,⟨#[48,49,49,48,49,32,48,48,48,49,48,48,48,49,49,32,48,48,48,48,48,48,49,49,48,49]⟩,⟨#[48,49,49,48,48,32,48,48,48,49,48,48,48,49,48,32,48,48,48,48,48,49,48,49,48,48,49,48]⟩,⟨#[48,49,48,49,49,32,48,48,48,48,48,48,49,49,48,48,32,48,48,48,48,48,49,48,49,48,48,49,49]⟩,⟨#[48,49,48,48,49,49,32,48,48,48,48,48,48,49,48,49,49,32,48,48,48,48,48,49,48,49,48,49,48,48]⟩,⟨#[48,49,48,48,49,48,32,48,48,48,48,48,48,49,48,49,48]⟩,⟨#[48,49,48,48,48,49,32,48,48,48,48,48,48,49,48,48,49]⟩,⟨#[48,49,48,48,48,48,32,48,48,48,48,48,48,49,48,48,48]⟩,⟨#[48,48,49,48,49,49,48,32,48,48,48,48,48,49,48,49,48,49,48,49]⟩,⟨#[48,48,49,48,49,48,49]⟩,⟨#[48,48,49,48,49,48,48]⟩,⟨#[48,48,48,49,49,49,48,48]⟩,⟨#[48,48,48,49,49,48,49,49]⟩,⟨#[48,48,48,49,48,48,48,48,49]⟩,⟨#[48,48,48,49,48,48,48,48,48]⟩,⟨#[48,48,48,48,49,49,49,49,49]⟩,⟨#[48,48,48,48,49,49,49,49,48]⟩,⟨#[48,48,48,48,49,49,49,48,49]⟩,⟨#[48,48,48,48,49,49,49,48,48]⟩,⟨#[48,48,48,48,49,49,48,49,49]⟩,⟨#[48,48,48,48,49,49,48,49,48]⟩,⟨#[48,48,48,48,48,49,48,48,48,49,48]⟩,⟨#[48,48,48,48,48,49,48,48,48,49,49]⟩,⟨#[48,48,48,48,48,49,48,49,48,49,49,48]⟩,⟨#[48,48,48,48,48,49,48,49,48,49,49,49]⟩]
def OJ:List ByteArray:=[⟨#[48,49,49,49,32,48,48,48,48,49,49,48,48,49,32,48,48,48,48,48,48,48,48,49,48,49]⟩,⟨#[48,48,49,49,49,49,32,48,48,48,48,48,48,48,48,49,48,48]⟩,⟨#[48,48,49,49,49,48]⟩,⟨#[48,48,49,49,48,49]⟩,⟨#[48,48,49,49,48,48]⟩,⟨#[48,48,49,48,48,49,49]⟩,⟨#[48,48,49,48,48,49,48]⟩,⟨#[48,48,49,48,48,48,49]⟩,⟨#[48,48,49,48,48,48,48]⟩,⟨#[48,48,48,49,49,48,49,48]⟩,⟨#[48,48,48,49,49,48,48,49]⟩,⟨#[48,48,48,49,49,48,48,48]⟩,⟨#[48,48,48,49,48,49,49,49]⟩,⟨#[48,48,48,49,48,49,49,48]⟩,⟨#[48,48,48,49,48,49,48,49]⟩,⟨#[48,48,48,49,48,49,48,48]⟩,⟨#[48,48,48,49,48,48,49,49]⟩,⟨#[48,48,48,48,49,49,48,48,48]⟩,⟨#[48,48,48,48,49,48,49,49,49]⟩,⟨#[48,48,48,48,49,48,49,49,48]⟩,⟨#[48,48,48,48,49,48,49,48,49]⟩,⟨#[48,48,48,48,49,48,49,48,48]⟩,⟨#[48,48,48,48,49,48,48,49,49]⟩,⟨#[48,48,48,48,49,48,48,49,48]⟩,⟨#[48,48,48,48,49,48,48,48,49]⟩,⟨#[48,48,48,48,48,48,48,49,49,49]⟩,⟨#[48,48,48,48,48,48,48,49,49,48]⟩,⟨#[48,48,48,48,48,48,48,49,48,49]⟩,⟨#[48,48,48,48,48,48,48,49,48,48]⟩,⟨#[48,48,48,48,48,49,48,48,49,48,48]⟩,⟨#[48,48,48,48,48,49,48,48,49,48,49]⟩,⟨#[48,48,48,48,48,49,48,48,49,49,48]⟩,⟨#[48,48,48,48,48,49,48,48,49,49,49]⟩,⟨#[48,48,48,48,48,49,48,49,49,48,48,48]⟩,⟨#[48,48,48,48,48,49,48,49,49,48,48,49]⟩,⟨#[48,48,48,48,48,49,48,49,49,48,49,48]⟩,⟨#[48,48,48,48,48,49,48,49,49,48,49,49]⟩,⟨#[48,48,48,48,48,49,48,49,49,49,48,48]⟩,⟨#[48,48,48,48,48,49,48,49,49,49,48,49]⟩,⟨#[48,48,48,48,48,49,48,49,49,49,49,48]⟩,⟨#[48,48,48,48,48,49,48,49,49,49,49,49]⟩]
theorem Qv:O3.length=27:=rfl
theorem Qa:OJ.length=41:=rfl
def P6 (last:Bool)(a:Nat):List Nat:=(List.range (CJ last a)).map fun i=>HO last+F8 last a+i
def KG (last:Bool)(a:Nat):List (List UInt8):=(P6 last a).map fun p=>AC (HK p)
theorem uM:∀r,(h:r<27)->Qt (O3[r]'(by rw[Qv];exact h)).data.toList=KG false r/\(O3[r]'(by rw[Qv];exact h)).size<=200:=by decide +kernel
theorem gO:∀r,(h:r<41)->Qt (OJ[r]'(by rw[Qa];exact h)).data.toList=KG true r/\(OJ[r]'(by rw[Qa];exact h)).size<=200:=by decide +kernel
theorem XJ {last:Bool}{r:Nat}(h:(if last then 41 else 27)<=r):KG last r=[]:=by
 have a:CJ last r=0:=by
  unfold CJ;cases last
  ·simp only[K8,J9] at h ⊢;rw[Bb (by omega),Bb (by omega)]
  ·simp only[Kg] at h ⊢;rw[Bb (by omega),Bb (by omega),Bb (by omega)]
 unfold KG P6;rw[a]
 rfl
set_option maxRecDepth 100000 in
theorem R2 (w:A5):A9 prog 181 #[] w fun e a=>e=.returned (.slice (some ⟨w.heap.size,0,none⟩) 27 27)/\Jx a (some ⟨w.heap.size,0,none⟩) O3/\Below w.heap.size w a:=by
 go_enter func181,ntmps181
 go_wp2
 go_ret
 exact⟨rfl,Rj (T:=9) (l:=O3) (heap_alloc_new w _),(Dq _ w).alloc (Ba _) _⟩
set_option maxRecDepth 100000 in
theorem Yu (w:A5):A9 prog 182 #[] w fun e a=>e=.returned (.slice (some ⟨w.heap.size,0,none⟩) 41 41)/\Jx a (some ⟨w.heap.size,0,none⟩) OJ/\Below w.heap.size w a:=by
 go_enter func182,ntmps182
 go_wp2
 go_ret
 exact⟨rfl,Rj (T:=9) (l:=OJ) (heap_alloc_new w _),(Dq _ w).alloc (Ba _) _⟩
def Qo9 (last:Bool)(b:Nat)(w:A5)(e:Ad)(c:A5):Prop:=
 ∃(l:List ByteArray) (q:Option Aa) (cap:Nat),e=.returned (.slice q l.length cap)/\IB l=KG last b/\Jx c q l/\(∀a,q=some a->w.heap.size<=a.block)/\Below w.heap.size w c
set_option maxRecDepth 100000 in
theorem Qfo (last:Bool)(c:Nat)(hr:c<64)(w:A5):A9 prog 163 #[.bool last,.int .i64 (c:Int)] w (Qo9 last c w):=by
 cases last with
 |false=>
  by_cases h:27<=c
  ·have F:=Dp (XJ (last:=false) (r:=c) h);have t0:decide (27<=(c:Int))=true:=by simp;omega
   have t1:decide (27<=c)=true:=by simpa using h
   go_enter func163,ntmps163
   go_wp2_with fail
   refine(R2 _).mono ?_;rintro e k ⟨rfl,d,g⟩
   go_wp2
   go_ret
   exact⟨[],none,0,rfl,by rw[F.out];rfl,.inl rfl,fun _ h=>(by cases h),g⟩
  ·obtain⟨f1,f2⟩:=uM c (by omega);have t0:decide (27<=(c:Int))=false:=by simp;omega
   have t1:decide (27<=c)=false:=by simpa using h
   obtain⟨s,hs⟩:∃s,O3[c]'(by rw[Qv];omega)=s:=⟨_,rfl⟩;rw[hs] at f1 f2;have F:=Dp f1;have p:=Dp hs;clear f1 hs
   go_enter func163,ntmps163
   go_wp2_with fail
   refine(R2 _).mono ?_;rintro e k ⟨rfl,d,g⟩;obtain⟨b,o,e,_,hc⟩:=d.at (by rw[Qv];omega);cases e;have t:k.cell? ⟨w.heap.size,0+c,none⟩=some (.string s):=(hc c (by rw[Qv];omega)).trans (C6 (fun x=>some (Value.string x)) p.out);rw[Bo] at t;have m:=g.size;clear hc
   go_wp2_with fail
   refine(Xj s f2 _).mono ?_;rintro e y ⟨l,q,cap,rfl,h1,h2,h3,h4,i⟩;have u:=Dp h1;have v:=Dp h4;clear h1 h4
   go_wp2
   go_ret
   exact⟨l,q,cap,rfl,u.out.trans F.out,h2,fun a h=>Eg m (v.out a h),g.trans (i.mono m)⟩
 |true=>
  by_cases h:41<=c
  ·have F:=Dp (XJ (last:=true) (r:=c) h);have t0:decide (41<=(c:Int))=true:=by simp;omega
   have t1:decide (41<=c)=true:=by simpa using h
   go_enter func163,ntmps163
   go_wp2_with fail
   refine(R2 _).mono ?_;rintro e w0 ⟨rfl,_,f⟩;have j:=f.size
   go_wp2_with fail
   refine(Yu _).mono ?_;rintro e k ⟨rfl,d,g⟩
   go_wp2
   go_ret
   exact⟨[],none,0,rfl,by rw[F.out];rfl,.inl rfl,fun _ h=>(by cases h),f.trans (g.mono j)⟩
  ·obtain⟨f1,f2⟩:=gO c (by omega);have t0:decide (41<=(c:Int))=false:=by simp;omega
   have t1:decide (41<=c)=false:=by simpa using h
   obtain⟨s,hs⟩:∃s,OJ[c]'(by rw[Qa];omega)=s:=⟨_,rfl⟩;rw[hs] at f1 f2;have F:=Dp f1;have p:=Dp hs;clear f1 hs
   go_enter func163,ntmps163
   go_wp2_with fail
   refine(R2 _).mono ?_;rintro e w0 ⟨rfl,_,f⟩;have j:=f.size
   go_wp2_with fail
   refine(Yu _).mono ?_;rintro e k ⟨rfl,d,g⟩;obtain⟨b,o,e,_,hc⟩:=d.at (by rw[Qa];omega);cases e;have t:k.cell? ⟨w0.heap.size,0+c,none⟩=some (.string s):=(hc c (by rw[Qa];omega)).trans (C6 (fun x=>some (Value.string x)) p.out);rw[Bo] at t;have n:=f.trans (g.mono j);have m:=n.size;clear hc
   go_wp2_with fail
   refine(Xj s f2 _).mono ?_;rintro e y ⟨l,q,cap,rfl,h1,h2,h3,h4,i⟩;have u:=Dp h1;have v:=Dp h4;clear h1 h4
   go_wp2
   go_ret
   exact⟨l,q,cap,rfl,u.out.trans F.out,h2,fun a h=>Eg m (v.out a h),n.trans (i.mono m)⟩
end
section
open Go.RowKit Go.Lib Go.ChangeShapes Go.WideShapes Go.ChangeAt
theorem UP:(Rows.laid_overspill_tcoef_codes:Ab Unit)=tabData .u16 (UR.map fun z:Nat=>(z:Int))/\(Rows.laid_overspill_tcoef_lengths:Ab Unit)=tabData .u8 (UM.map fun z:Nat=>(z:Int))/\(Rows.laid_overspill_tcoef_ahead:Ab Unit)=tabData .u8 (Ua.map fun z:Nat=>(z:Int)):=⟨by kernel_rfl,by kernel_rfl,by kernel_rfl⟩
theorem ZQ (l:List Nat)(i:Nat)(h:i<(l.map fun z:Nat=>(z:Int)).length):(l.map fun z:Nat=>(z:Int))[i]=((l[i]?.getD 0:Nat):Int):=by
 have h2:i<l.length:=by simpa using h
 rw[Gn,Fj h2]
 rfl
theorem S0 {P:Program}{W:A5}{a:List (String×Ab Unit)}{o:List MemPlace}{b:String}{k:IntKind}{zs:List Int}{g:Nat}{t e:TypeId}{n:Nat}(hv:DataW.LaidVars P W a o)(hm:(b,(tabData k zs:Ab Unit))∈a)
  (l:P.globalNamed b=some g)(ht:(P.globals[g]?).map (·.type)=some t)(q:P.underlying t=some (.array n e))(r:P.underlying e=some (.int k))(d:P.cellsOf e=1)(f:P.cellsOf t=n)(i:Nat)(hi:i<zs.length):
  W.cell? ⟨g,i,none⟩=some (.int k zs[i]):=by
 obtain⟨s,u,cs,m,p,h,j,hc,hd⟩:=PI hv hm;obtain rfl:=Fm (l.symm.trans h);obtain rfl:=Fm (ht.symm.trans j);have h1:=cells_of_tab q r d f hd;have c:=Ij l hc i;rw[c,<-Ii,h1,Ig,Fj hi]
 rfl
theorem iU {laid : List (String × DataW Unit)} {W : World} (hL : laidMetH prog laid W) (hm : (("overspill/tcoef.codes", Rows.laid_overspill_tcoef_codes) ∈ laid ∧ ("overspill/tcoef.lengths", Rows.laid_overspill_tcoef_lengths) ∈ laid ∧ ("overspill/tcoef.ahead", Rows.laid_overspill_tcoef_ahead) ∈ laid) ∧ (laid.all fun x => x.2.handleName?.isNone) = true) : BK W := by
 rw[Je _ _ _ hm.2] at hL;obtain⟨ps,hv,_,_⟩:=hL;obtain⟨h1,h2,h3⟩:=hm.1;rw[UP.1] at h1;rw[UP.2.1] at h2;rw[UP.2.2] at h3;have hlc:(UR.map fun z:Nat=>(z:Int)).length=103:=rfl;have hll:(UM.map fun z:Nat=>(z:Int)).length=103:=rfl;have hla:(Ua.map fun z:Nat=>(z:Int)).length=11:=rfl;refine⟨fun i hi=>?_,fun i hi=>?_⟩
 ·have g1:=S0 hv h1 (g:=5) (t:=267) (by kernel_rfl) (by kernel_rfl) underlying267 underlying266 (by kernel_rfl) (by kernel_rfl) i (by rw[hlc];exact hi);have g2:=S0 hv h2 (g:=6) (t:=268) (by kernel_rfl) (by kernel_rfl) underlying268 Dy (by kernel_rfl) (by kernel_rfl) i (by rw[hll];exact hi);rw[ZQ] at g1 g2;exact⟨g1,g2⟩
 ·have g3:=S0 hv h3 (g:=7) (t:=296) (by kernel_rfl) (by kernel_rfl) underlying296 Dy (by kernel_rfl) (by kernel_rfl) i (by rw[hla];exact hi);rw[ZQ] at g3;exact g3
theorem Qid {laid:List (String×Ab Unit)}{W:A5}(hL:laidMetH prog laid W)
  (hm : (("overspill/cbpy.rows", Rows.laid_overspill_cbpy_rows) ∈ laid ∧ (("overspill/mvd.codes", Rows.laid_overspill_mvd_codes) ∈ laid ∧ ("overspill/mvd.lengths", Rows.laid_overspill_mvd_lengths) ∈ laid) ∧ ("overspill/steps.codes", Rows.laid_overspill_steps_codes) ∈ laid ∧
   (("overspill/tcoef.codes", Rows.laid_overspill_tcoef_codes) ∈ laid ∧ ("overspill/tcoef.lengths", Rows.laid_overspill_tcoef_lengths) ∈ laid ∧ ("overspill/tcoef.ahead", Rows.laid_overspill_tcoef_ahead) ∈ laid)) ∧ (laid.all fun x => x.2.handleName?.isNone) = true) : Ybw W.heap.size W :=
 Ybw.here (sR hL ⟨hm.1.1,hm.2⟩) (fA hL ⟨hm.1.2.1,hm.2⟩) (Qap hL ⟨hm.1.2.2.1,hm.2⟩) (iU hL ⟨hm.1.2.2.2,hm.2⟩)
end
end Go.Proofs.YtjjmalchelniiaaGreatDoor
