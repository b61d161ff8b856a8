/- StripsChecks, 24. No condition. -/
import Derived.Test.YtjjmalchelniiaaGreatDoorStripsChecksMb
import Derived.Test.YtjjmalchelniiaaGreatDoorStripsChecksMe
import Derived.Test.YtjjmalchelniiaaGreatDoorStripsChecksMf
import Derived.Test.YtjjmalchelniiaaGreatDoorStripsChecksMh
import Derived.Test.YtjjmalchelniiaaGreatDoorStripsChecksMi
import Derived.Test.YtjjmalchelniiaaGreatDoorStripsChecksMs
import Derived.Test.YtjjmalchelniiaaGreatDoorStripsChecksMt
import Derived.Test.YtjjmalchelniiaaGreatDoorStripsChecksMw
import Derived.Deep.RegionWith
open Go.Proofs.Tryz
open Go renaming World->A5,Calls->A9,Addr->Aa,Ending->Ae,DataW->Ab
set_option maxHeartbeats 4000000
namespace Go.Proofs.YtjjmalchelniiaaGreatDoor
section
open Go.RowKit Go.Lib
abbrev L2:=@decide_eq_true_eq
abbrev L3:=@underlying153
abbrev L4:=@Exit.noGoto_ret
abbrev L6:=@Bool.not_eq_true'
abbrev L7:=@underlying72
abbrev L8:=@List.mem_of_getElem?
abbrev L9:=@Bool.and_true
abbrev La:=@Int.natCast_inj
abbrev Lb:=@ntmps255
theorem yH:∀i,i<103->2<=AS i:=by decide +kernel
theorem qC:∀a:Bool,∀b,b<41->1<=DE a b->∀r,r<b->1<=DE a r:=by decide +kernel
theorem rD (v r:Nat)(h:v%2=r):bits .and .i64 (v:Int) 1=(r:Int):=by rw[QI];omega
theorem qR (p v:Nat)(hp:p<102)(w:A5)(ht:BD w):A9 prog 290 #[.int .i64 (p:Int),.int .i64 (v:Int)] w fun e w'=>e=.returned (OB (NA (evT p) (v%2==1)))/\Below w.heap.size w w':=by
 obtain⟨⟨h1,h2,h3⟩,h4,h5,h6⟩:=Yp p hp;obtain⟨f,b,j,he⟩:∃f b j,evT p=(f,b,j):=⟨_,_,_,rfl⟩;rw[he] at h1 h2 h3 h4 h5 h6 ⊢;simp only at h1 h2 h3 h4 h5 h6;have L:=Yd.1 h1;unfold plT at h2;have H:=fun(r:Nat) (hr:r<=b) (x:A5) (M:BD x)=>Tp f r (by omega) x M;have hpos:=fun(r:Nat) (hr:r<b)=>qC f b h3 (by omega) r hr
 have l:=fun(r:Nat) (hr:r<b)=>tP f (show r+1<=b by omega);have I:∀r,G5 f (r+1)=G5 f r+DE f r:=fun r=>rfl;have T:G5 f 0=0:=rfl;obtain⟨r1,N⟩:=Ai (v%2);have U:r1=0\/r1=1:=by omega
 have F:=Dl (rD v r1 N);rw[N];obtain⟨B,m⟩:=Ai w.heap.size;obtain⟨k,G⟩:∃k,p=JU f+k:=⟨p-JU f,by omega⟩;have V:k=G5 f b+(j-1):=by omega
 generalize ad:G5 f=sm at *;generalize ae:DE f=E at *;have W:=Dl H;have X:=Dl hpos;have J:=Dl l;have Y:=Dl I;have ai:=Dl T;have K:=Dl V;have S:=Dl m;have aj:=Dl L.2;have ac:=Dl L.1;have ak:=Dl (show j=k-sm b+1 by omega);have n:k<=102:=by omega
 clear he h1 h2 H hpos l I T V L ad ae N h5;cases f with
 |false=>
  have t0:decide (58<=(p:Int))=false:=by rw[G3];have:=of_decide_eq_false h4.symm;omega
  have q:(p:Int)=0+(k:Int):=by rw[G];simp[JU]
  have g:Below B w ((w.alloc (.cells #[.bool false,.int .i64 0,.int .i64 0] 153 (0,0))).alloc (.cells #[.bool false,.int .i64 0,.int .i64 0] 153 (0,0))):=by rw[<-m];exact((Dm _ w).alloc (Ba _) _).alloc (by simp) _
  have a:((w.alloc (.cells #[.bool false,.int .i64 0,.int .i64 0] 153 (0,0))).alloc (.cells #[.bool false,.int .i64 0,.int .i64 0] 153 (0,0))).heap[B]? =some (BW false 0 0):=by rw[<-m];exact heap_alloc2_old w _ _
  have c:((w.alloc (.cells #[.bool false,.int .i64 0,.int .i64 0] 153 (0,0))).alloc (.cells #[.bool false,.int .i64 0,.int .i64 0] 153 (0,0))).heap[B+1]? =some (BW false 0 0):=by rw[<-m];exact heap_alloc2_new w _ _
  have af:=Dl (fun(x:A5) (M:Below B w x)=>(ht.below (by rw[m];exact M):BD x));have O:=Dl q;clear ht m h4 G q
  go_enter func290,ntmps290
  go_wp2
  rw[S.out];generalize (w.alloc (.cells #[.bool false,.int .i64 0,.int .i64 0] 153 (0,0))).alloc (.cells #[.bool false,.int .i64 0,.int .i64 0] 153 (0,0))=w2 at g a c ⊢
  go_loopw [0] (fun u wr=>∃r x:Nat,r<=b/\u=.int .i64 x/\x<=102/\Hid (x+sm r=k)/\wr.heap[B+1]? =some (BW false r 0)/\wr.heap[B]? =some (BW false 0 0)/\Below B w wr) (fun u _=>(intOf u).toNat)
  case atStart=>exact⟨0,k,Dn _,C8 (Value.int .i64) (by have:=O.out;omega),n,Dl (by rw[ai.out];rfl),c,a,g⟩
  case round=>
   clear g a c;obtain⟨r,x,hr,rfl,M,d,c,a,P⟩:=hrel;obtain⟨c0,c1,c2,f0,f1,f2⟩:=EH c;obtain⟨d0,d1,d2,k0,k1,k2⟩:=EH a;have h:B<wr.heap.size:=(Dy.1 a).1;have hc:=W.out r hr _ (af.out _ P);by_cases s:r<b
   ·have e1:=J.out r s;have e2:=Y.out r;have e3:=X.out r s;have Z:=Dl (show x-E r+sm (r+1)=k by have:=d.out;have:=K.out;omega);have t:E r<=x:=by have:=d.out;have:=K.out;omega
    clear e1 e2;generalize E r=y at hc Z t e3;have t1:decide (y<=x)=true:=by simpa using t
    clear d
    go_wp2_with fail
    refine hc.mono ?_;rintro e Q ⟨rfl,rfl⟩
    go_wp2_with fail
    refine hc.mono ?_;rintro e Q ⟨rfl,rfl⟩
    go_wp2
    go_roundw
    case rel=>exact⟨r+1,x-y,by omega,by go_num,by omega,Z,by rw[show ((r+1:Nat):Int)=(r:Int)+1 by omega];exact Tz c _,((DC wr ⟨B+1,1,none⟩ _).block B h (by simp)).trans a,P.setCell (by simp) _⟩
    case measure=>simp[intOf];omega
   ·obtain rfl:r=b:=by omega
    have z:x<E r:=by have:=d.out;have:=K.out;have:=aj.out;have:=ac.out;omega
    have A:(x:Int)+1=(j:Int):=by have:=d.out;have:=K.out;have:=ac.out;omega
    generalize E r=y at hc z;have t1:decide (y<=x)=false:=by simp;omega
    have aa:=Dl A;clear A;have C:∀u,Below B w (wr.setCell ⟨B+1,2,none⟩ u):=fun u=>P.setCell (by simp) _;have i:∀u,(wr.setCell ⟨B+1,2,none⟩ u).heap[B]? =some (BW false 0 0):=fun u=>((DC wr ⟨B+1,2,none⟩ u).block B h (by simp)).trans a
    have D:∀u R,((wr.setCell ⟨B+1,2,none⟩ u).setCell ⟨B+1,2,none⟩ R).heap[B]? =some (BW false 0 0):=fun u R=>((DC (wr.setCell ⟨B+1,2,none⟩ u) ⟨B+1,2,none⟩ R).block B (Bg h (DC wr ⟨B+1,2,none⟩ u).size) (by simp)).trans (i u);have ab:=Dl C;have ag:=Dl i;have ah:=Dl D;clear C i D;rcases U with rfl|rfl
    ·have g1:(bits .and .i64 (v:Int) 1==1)=false:=by rw[F.out];rfl
     go_wp2_with fail
     refine hc.mono ?_;rintro e Q ⟨rfl,rfl⟩
     go_wp2
     exact J7 (J8 rfl _ _ B 153 _ (0,0) _ rfl (B3 (o:=2) (.int .i64 ((x:Int)+1)) (B3 (o:=1) (.int .i64 (r:Int)) (B3 (o:=0) (.bool false) (ag.out _)))) L3 rfl (by kernel_rfl)) rfl ⟨by rw[aa.out];rfl,by rw[S.out];exact(((ab.out _).setCell (Ba _) _).setCell (Ba _) _).setCell (Ba _) _⟩
    ·have g1:(bits .and .i64 (v:Int) 1==1)=true:=by rw[F.out];rfl
     go_wp2_with fail
     refine hc.mono ?_;rintro e Q ⟨rfl,rfl⟩
     go_wp2
     exact J7 (J8 rfl _ _ B 153 _ (0,0) _ rfl (B3 (o:=2) (.int .i64 (-((x:Int)+1))) (B3 (o:=1) (.int .i64 (r:Int)) (B3 (o:=0) (.bool false) (ah.out _ _)))) L3 rfl (by kernel_rfl)) rfl ⟨by rw[aa.out];rfl,by rw[S.out];exact((((ab.out _).setCell (by simp) _).setCell (Ba _) _).setCell (Ba _) _).setCell (Ba _) _⟩
 |true=>
  have t0:decide (58<=(p:Int))=true:=by rw[Fb];have:=Fj h4.symm;omega
  have q:(p:Int)=58+(k:Int):=by rw[G];simp[JU]
  have g:Below B w ((w.alloc (.cells #[.bool false,.int .i64 0,.int .i64 0] 153 (0,0))).alloc (.cells #[.bool true,.int .i64 0,.int .i64 0] 153 (0,0))):=by rw[<-m];exact((Dm _ w).alloc (Ba _) _).alloc (by simp) _
  have a:((w.alloc (.cells #[.bool false,.int .i64 0,.int .i64 0] 153 (0,0))).alloc (.cells #[.bool true,.int .i64 0,.int .i64 0] 153 (0,0))).heap[B]? =some (BW false 0 0):=by rw[<-m];exact heap_alloc2_old w _ _
  have c:((w.alloc (.cells #[.bool false,.int .i64 0,.int .i64 0] 153 (0,0))).alloc (.cells #[.bool true,.int .i64 0,.int .i64 0] 153 (0,0))).heap[B+1]? =some (BW true 0 0):=by rw[<-m];exact heap_alloc2_new w _ _
  have af:=Dl (fun(x:A5) (M:Below B w x)=>(ht.below (by rw[m];exact M):BD x));have O:=Dl q;clear ht m h4 G q
  go_enter func290,ntmps290
  go_wp2
  rw[S.out];generalize (w.alloc (.cells #[.bool false,.int .i64 0,.int .i64 0] 153 (0,0))).alloc (.cells #[.bool true,.int .i64 0,.int .i64 0] 153 (0,0))=w2 at g a c ⊢
  go_loopw [0] (fun u wr=>∃r x:Nat,r<=b/\u=.int .i64 x/\x<=102/\Hid (x+sm r=k)/\wr.heap[B+1]? =some (BW true r 0)/\wr.heap[B]? =some (BW false 0 0)/\Below B w wr) (fun u _=>(intOf u).toNat)
  case atStart=>exact⟨0,k,Dn _,C8 (Value.int .i64) (by have:=O.out;omega),n,Dl (by rw[ai.out];rfl),c,a,g⟩
  case round=>
   clear g a c;obtain⟨r,x,hr,rfl,M,d,c,a,P⟩:=hrel;obtain⟨c0,c1,c2,f0,f1,f2⟩:=EH c;obtain⟨d0,d1,d2,k0,k1,k2⟩:=EH a;have h:B<wr.heap.size:=(Dy.1 a).1;have hc:=W.out r hr _ (af.out _ P);by_cases s:r<b
   ·have e1:=J.out r s;have e2:=Y.out r;have e3:=X.out r s;have Z:=Dl (show x-E r+sm (r+1)=k by have:=d.out;have:=K.out;omega);have t:E r<=x:=by have:=d.out;have:=K.out;omega
    clear e1 e2;generalize E r=y at hc Z t e3;have t1:decide (y<=x)=true:=by simpa using t
    clear d
    go_wp2_with fail
    refine hc.mono ?_;rintro e Q ⟨rfl,rfl⟩
    go_wp2_with fail
    refine hc.mono ?_;rintro e Q ⟨rfl,rfl⟩
    go_wp2
    go_roundw
    case rel=>exact⟨r+1,x-y,by omega,by go_num,by omega,Z,by rw[show ((r+1:Nat):Int)=(r:Int)+1 by omega];exact Tz c _,((DC wr ⟨B+1,1,none⟩ _).block B h (by simp)).trans a,P.setCell (by simp) _⟩
    case measure=>simp[intOf];omega
   ·obtain rfl:r=b:=by omega
    have z:x<E r:=by have:=d.out;have:=K.out;have:=aj.out;have:=ac.out;omega
    have A:(x:Int)+1=(j:Int):=by have:=d.out;have:=K.out;have:=ac.out;omega
    generalize E r=y at hc z;have t1:decide (y<=x)=false:=by simp;omega
    have aa:=Dl A;clear A;have C:∀u,Below B w (wr.setCell ⟨B+1,2,none⟩ u):=fun u=>P.setCell (by simp) _;have i:∀u,(wr.setCell ⟨B+1,2,none⟩ u).heap[B]? =some (BW false 0 0):=fun u=>((DC wr ⟨B+1,2,none⟩ u).block B h (by simp)).trans a
    have D:∀u R,((wr.setCell ⟨B+1,2,none⟩ u).setCell ⟨B+1,2,none⟩ R).heap[B]? =some (BW false 0 0):=fun u R=>((DC (wr.setCell ⟨B+1,2,none⟩ u) ⟨B+1,2,none⟩ R).block B (Bg h (DC wr ⟨B+1,2,none⟩ u).size) (by simp)).trans (i u);have ab:=Dl C;have ag:=Dl i;have ah:=Dl D;clear C i D;rcases U with rfl|rfl
    ·have g1:(bits .and .i64 (v:Int) 1==1)=false:=by rw[F.out];rfl
     go_wp2_with fail
     refine hc.mono ?_;rintro e Q ⟨rfl,rfl⟩
     go_wp2
     exact J7 (J8 rfl _ _ B 153 _ (0,0) _ rfl (B3 (o:=2) (.int .i64 ((x:Int)+1)) (B3 (o:=1) (.int .i64 (r:Int)) (B3 (o:=0) (.bool true) (ag.out _)))) L3 rfl (by kernel_rfl)) rfl ⟨by rw[aa.out];rfl,by rw[S.out];exact(((ab.out _).setCell (Ba _) _).setCell (Ba _) _).setCell (Ba _) _⟩
    ·have g1:(bits .and .i64 (v:Int) 1==1)=true:=by rw[F.out];rfl
     go_wp2_with fail
     refine hc.mono ?_;rintro e Q ⟨rfl,rfl⟩
     go_wp2
     exact J7 (J8 rfl _ _ B 153 _ (0,0) _ rfl (B3 (o:=2) (.int .i64 (-((x:Int)+1))) (B3 (o:=1) (.int .i64 (r:Int)) (B3 (o:=0) (.bool true) (ah.out _ _)))) L3 rfl (by kernel_rfl)) rfl ⟨by rw[aa.out];rfl,by rw[S.out];exact((((ab.out _).setCell (by simp) _).setCell (Ba _) _).setCell (Ba _) _).setCell (Ba _) _⟩
theorem qG (v:Nat)(w:A5):A9 prog 291 #[.int .i64 (v:Int)] w fun e B=>e=.returned (OB (EJ v))/\Below w.heap.size w B:=by
 obtain⟨a,j⟩:∃a:Nat,v / 256=a:=⟨_,rfl⟩;obtain⟨l,hl⟩:∃l:Nat,v%256=l:=⟨_,rfl⟩;obtain⟨r,hr⟩:∃r:Nat,a%64=r:=⟨_,rfl⟩;obtain⟨b,k⟩:∃b:Nat,a / 64%2=b:=⟨_,rfl⟩;have d:v / 256%64=r:=by rw[j,hr]
 have f:v / 16384%2=b:=by rw[<-k,<-j,Nat.div_div_eq_div_mul]
 have E:=Dl (show OB (EJ v)=.agg #[.bool (b==1),.int .i64 (r:Int),.int .i64 (if 127<l then (l:Int)-256 else (l:Int))] by unfold OB EJ;simp only[d,f,hl]);rw[E.out];have h:bits .and .i64 (v:Int) 255=(l:Int):=by rw[show (255:Int)=2^8-1 by decide,KE _ 8 (by omega)];omega
 have q:(v:Int) / 2^8=(a:Int):=by omega
 have g:(v:Int) / 256=(a:Int):=by omega
 have m:bits .and .i64 (a:Int) 63=(r:Int):=by rw[WV];omega
 have n:bits .and .i64 ((a:Int) / 64) 1=(b:Int):=by rw[QI];omega
 have p:((b:Int)==1)=(b==1):=by rw[Ju,Bm,Bm];omega
 have s:=Dl h;have t:=Dl g;have u:=Dl m;have x:=Dl n;have y:=Dl p;have z:l<256:=by omega
 have i:∀o,Below w.heap.size w (w.alloc o):=fun o=>(Dm _ w).alloc (Ba _) o;have A:∀cs,(w.alloc (.cells cs 153 (0,0))).heap[w.heap.size]? =some (.cells cs 153 (0,0)):=fun cs=>heap_alloc_new w _;by_cases c:127<l
 ·have t0:decide (127<bits .and .i64 (v:Int) 255)=true:=by rw[h];simp;omega
  have C:0<=bits .and .i64 (v:Int) 255:=by omega
  have r1:bits .and .i64 (v:Int) 255<=255:=by omega
  rw[Bc c];clear E j hl hr k d f h q g m n p c
  go_enter func291,ntmps291
  go_wp2
  exact J7 (J8 rfl _ _ w.heap.size 153 _ (0,0) _ rfl (A _) L3 rfl (by kernel_rfl)) rfl ⟨by rw[t.out,x.out,u.out,s.out,y.out],i _⟩
 ·have t0:decide (127<bits .and .i64 (v:Int) 255)=false:=by rw[h];simp;omega
  have C:0<=bits .and .i64 (v:Int) 255:=by omega
  have r1:bits .and .i64 (v:Int) 255<=255:=by omega
  rw[Bb c];clear E j hl hr k d f h q g m n p c
  go_enter func291,ntmps291
  go_wp2
  exact J7 (J8 rfl _ _ w.heap.size 153 _ (0,0) _ rfl (A _) L3 rfl (by kernel_rfl)) rfl ⟨by rw[t.out,x.out,u.out,s.out,y.out],i _⟩
theorem P4 (y m r k:Nat)(hm:m=2^k)(h:r<m)(c:m*y+r<4294967296):bits .or .i64 ((y:Int)*(m:Int)) (r:Int)=((m*y+r:Nat):Int):=by
 have a:=Ch (i:=k) (b:=r) (by rw[<-hm];exact h) y;rw[show (y:Int)*(m:Int)=((m*y:Nat):Int) by rw[Int.mul_comm];simp];show IntKind.i64.wrap ((BitVec.ofInt 64 ((m*y:Nat):Int) ||| BitVec.ofInt 64 ((r:Nat):Int)).toNat:Int)=_
 rw[C6,C6,D9,C7,C7,Bn (by omega),Bn (by omega)];rw[<-hm] at a;rw[<-a,Cn];omega
theorem tX (d:Bool)(r:Nat)(c:Int)(hr:r<64)(hl:-128<=c/\c<=127)(w:A5)(S:BD w):A9 prog 224 #[.agg #[.bool d,.int .i64 (r:Int),.int .i64 c]] w fun e w'=>
  e=.returned (.tuple #[.int .i64 (D6 d r c:Nat),.int .i64 (D4 d r c:Nat)])/\Below w.heap.size w w':=by
 have k:=fun x i=>WB d r c hr hl x i;have K:=Dl (fun(x:A5) (i:Below w.heap.size w x)=>(S.below i:BD x));obtain⟨a,E⟩:∃a:Nat,c.natAbs=a:=⟨_,rfl⟩;rw[E] at k;cases hin:inT d r a with
 |true=>
  obtain⟨p,q⟩:=Ai (plT d r a);have T:p<102:=by rw[<-q];exact PP hr hin
  have L:=Dl (show D6 d r c=2*D1 p+(if c<0 then 1 else 0) by unfold D6;rw[E,hin,Bc rfl,q]);have M:=Dl (show D4 d r c=AS p+1 by unfold D4;rw[E,hin,Bc rfl,q]);rw[hin,Bc rfl,q] at k;have j:=fun x i=>OQ p (by omega) x i;have n:=fun x i=>R1 p (by omega) x i;rw[Bb (by omega)] at n;rw[L.out,M.out]
  obtain⟨b0,b1,b2,b3⟩:=JR p (by omega);have t:=fun(b:Bool) x=>VB b x;obtain⟨s,hs⟩:∃s:Bool,decide (c<0)=s:=⟨_,rfl⟩;have ho:=P4 (D1 p) 2 s.toNat 1 rfl (by cases s <;> decide) (by cases s <;> simp <;> omega);have F:(if c<0 then 1 else 0:Nat)=s.toNat:=by rw[<-hs];by_cases h:c<0 <;> simp[h]
  rw[F];generalize D1 p=x at j b3 ho ⊢;generalize AS p=y at j n b0 b1 ⊢;have O:=Dl (show bits .or .i64 ((x:Int)*2) (s.toNat:Int)=_ from ho);have ah:=Dl F;have l:Below w.heap.size w (w.alloc (.cells #[.bool d,.int .i64 (r:Int),.int .i64 c] 153 (0,0))):=(Dm _ w).alloc (Ba _) _;have u:=K.out _ l
  have N:∀x,Below (w.heap.size+1) (w.alloc (.cells #[.bool d,.int .i64 (r:Int),.int .i64 c] 153 (0,0))) x->x.heap[w.heap.size]? =some (BW d r c):=fun x i=>(i.block w.heap.size (by omega)).trans (heap_alloc_new w _);have U:=Dl N;have v:(w.alloc (.cells #[.bool d,.int .i64 (r:Int),.int .i64 c] 153 (0,0))).heap.size=w.heap.size+1:=by simp
  have P:=Dl v;clear L M hin E q S ho b2 F N v
  go_enter func224,ntmps224
  go_wp2_with fail
  refine(k _ u).mono ?_;rintro e w1 ⟨rfl,f⟩;rw[P.out] at f;have g:=l.trans (f.mono (by omega))
  go_wp2_with fail
  refine(j _ (K.out _ g)).mono ?_;rintro e G ⟨rfl,m⟩;have H:=g.size;have A:=f.trans (m.mono (by have:=f.size;rw[P.out] at this;exact this));have o:=g.trans (m.mono H);obtain⟨c0,c1,c2,_,_,_⟩:=EH (U.out _ A);have I:=K.out _ o;clear f g m A k j u l
  go_wp2_with fail
  refine(t _ _).mono ?_;rintro e w3 ⟨rfl,rfl⟩
  go_wp2_with fail
  refine(n _ I).mono ?_;rintro e w4 ⟨rfl,B⟩
  go_wp2
  go_ret2
  exact⟨Tg O.out rfl,o.trans (B.mono o.size)⟩
 |false=>
  have L:=Dl (show D6 d r c=((6+d.toNat)*64+r)*256+(c%256).toNat by unfold D6;rw[E,hin,Bb (by decide)]);have M:=Dl (show D4 d r c=22 by unfold D4;rw[E,hin,Bb (by decide)]);rw[hin,Bb (by decide)] at k;have j:=fun x i=>OQ 102 (by omega) x i;have n:=fun x i=>R1 102 (by omega) x i;rw[Bc rfl] at n
  rw[show D1 102=3 by decide +kernel] at j;rw[L.out,M.out];have t:=fun x=>VB d x;obtain⟨s,hs⟩:=Ai ((c%256).toNat);have J:s<256:=by omega
  have C:bits .and .i64 c 255=(s:Int):=by rw[show (255:Int)=2^8-1 by decide,KE _ 8 (by omega)];omega
  have V:=P4 3 2 d.toNat 1 rfl (by cases d <;> decide) (by cases d <;> simp);obtain⟨y,W⟩:=Ai (6+d.toNat);rw[show 2*3+d.toNat=y by omega] at V;have ad:y<=7:=by rw[<-W];cases d <;> decide
  have X:=P4 y 64 r 6 rfl hr (by omega);have Y:=P4 (64*y+r) 256 s 8 rfl J (by omega);rw[hs,W,show (y*64+r)*256+s=256*(64*y+r)+s by omega];obtain⟨z,hz⟩:=Ai (64*y+r);rw[hz] at X Y ⊢;have Z:z<512:=by omega
  have ae:=Dl (show bits .or .i64 6 (d.toNat:Int)=(y:Int) from V);have af:=Dl (show bits .or .i64 ((y:Int)*64) (r:Int)=(z:Int) from X);have ag:=Dl (show bits .or .i64 ((z:Int)*256) (s:Int)=_ from Y);have aa:=Dl C;have l:Below w.heap.size w (w.alloc (.cells #[.bool d,.int .i64 (r:Int),.int .i64 c] 153 (0,0))):=(Dm _ w).alloc (Ba _) _
  have u:=K.out _ l;have N:∀x,Below (w.heap.size+1) (w.alloc (.cells #[.bool d,.int .i64 (r:Int),.int .i64 c] 153 (0,0))) x->x.heap[w.heap.size]? =some (BW d r c):=fun x i=>(i.block w.heap.size (by omega)).trans (heap_alloc_new w _);have U:=Dl N;have v:(w.alloc (.cells #[.bool d,.int .i64 (r:Int),.int .i64 c] 153 (0,0))).heap.size=w.heap.size+1:=by simp
  have P:=Dl v;clear L M hin E S N v hs C V X Y W hz
  go_enter func224,ntmps224
  go_wp2_with fail
  refine(k _ u).mono ?_;rintro e w1 ⟨rfl,f⟩;rw[P.out] at f;have g:=l.trans (f.mono (by omega))
  go_wp2_with fail
  refine(j _ (K.out _ g)).mono ?_;rintro e G ⟨rfl,m⟩;have H:=g.size;have A:=f.trans (m.mono (by have:=f.size;rw[P.out] at this;exact this));have o:=g.trans (m.mono H);obtain⟨c0,c1,c2,_,_,_⟩:=EH (U.out _ A);have I:=K.out _ o;clear f g m A k j u l
  go_wp2_with fail
  refine(t _).mono ?_;rintro e w3 ⟨rfl,rfl⟩;have p1:=ae.out;have p2:=af.out;have p3:=aa.out
  go_wp2_with fail
  have ac:BD G.drew:=I;have D:Below w.heap.size w G.drew:=o.drew;have Q:G.drew.cell? ⟨w.heap.size,2,none⟩=some (.int .i64 c):=c2;have ab:w.heap.size<G.drew.heap.size:=Fs _ ⟨w.heap.size,2,none⟩ Q
  have R:=Dl (fun(x:A5) (i:Below G.drew.heap.size G.drew x)=>((i.cell (p:=⟨w.heap.size,2,none⟩) ab).trans Q:x.cell? ⟨w.heap.size,2,none⟩=some (.int .i64 c)));have sw:IntKind.i64.wrap ((z:Int)*256)=(z:Int)*256:=Kx _ (by omega)
  go_region_with (go_at_call 236;refine(n _ (by assumption)).mono ?_;rintro e w4 ⟨rfl,B⟩;have c4:=R.out _ B)
  all_goals
   go_wp2
   go_ret2
   exact⟨Tg ag.out rfl,D.trans (B.mono D.size)⟩
theorem QN (b:Bool)(r:Nat)(a:Int)(hr:r<64):3<=D4 b r a/\D4 b r a<=22/\D6 b r a<2^D4 b r a:=by
 unfold D4 D6;cases hin:inT b r a.natAbs with
 |true=>
  simp only[Kl];obtain⟨c,d,b2,_⟩:=JR (plT b r a.natAbs) (Nat.lt_trans (PP hr hin) (by decide));have b4:=yH _ (Nat.lt_trans (PP hr hin) (show 102<103 by decide));refine⟨by omega,by omega,?_⟩;rw[Cq]
  split <;> omega
 |false=>
  simp only[Kd,Jb];refine⟨by decide,by decide,?_⟩;have h1:b.toNat<=1:=by cases b <;> decide
  have h2:(a%256).toNat<256:=by omega
  omega
theorem nJ (c:Bool)(d b:Int)(w:A5)(p:BD w):A9 prog 207 #[.agg #[.bool c,.int .i64 d,.int .i64 b]] w fun e z=>
  e=.returned (.tuple #[.string (FC c d b),.bool (!(FC c d b).data.toList.isEmpty)])/\Below w.heap.size w z:=by
 have g:=fun x=>RR c d b x;have A:=Dl (fun(x:A5) (n:Below w.heap.size w x)=>(p.below n:BD x));have i:Below w.heap.size w (w.alloc (.cells #[.bool c,.int .i64 d,.int .i64 b] 153 (0,0))):=(Dm _ w).alloc (Ba _) _
 have q:∀x,Below (w.heap.size+1) (w.alloc (.cells #[.bool c,.int .i64 d,.int .i64 b] 153 (0,0))) x->x.heap[w.heap.size]? =some (BW c d b):=fun x n=>(n.block w.heap.size (by omega)).trans (heap_alloc_new w _);have B:=Dl q;have j:(w.alloc (.cells #[.bool c,.int .i64 d,.int .i64 b] 153 (0,0))).heap.size=w.heap.size+1:=by simp
 have u:=Dl j;cases hr:DY d b with
 |false=>
  have F:=Dl (show FC c d b=⟨#[]⟩ by unfold FC;rw[hr,Bb (by decide)]);rw[F.out];rw[hr] at g;clear hr p q j
  go_enter func207,ntmps207
  go_wp2_with fail
  refine(g _).mono ?_;rintro e C ⟨rfl,f⟩;rw[u.out] at f
  go_wp2
  go_ret2
  exact⟨rfl,i.trans (f.mono (by omega))⟩
 |true=>
  obtain⟨H,r1,I,D,J⟩:=KS.1 hr;obtain⟨r,rfl⟩:∃r:Nat,d=r:=⟨d.toNat,by omega⟩;have F:=Dl (show FC c r b=⟨(AI (D6 c r b) (D4 c r b)).toArray⟩ by unfold FC;rw[hr,Bc rfl];rfl);have k:=fun x n=>tX c r b (by omega) ⟨by omega,D⟩ x n;obtain⟨f1,f2,f3⟩:=QN c r b (by omega);have G:=Dl (show (!(FC c r b).data.toList.isEmpty)=true by
   rw[F.out];show (!(AI (D6 c r b) (D4 c r b)).isEmpty)=true;cases hl:AI (D6 c r b) (D4 c r b) with
   |nil=>
    have e:=BN (D6 c r b) (D4 c r b);rw[hl] at e;simp at e;omega
   |cons a l=>rfl)
  rw[G.out,F.out];rw[hr] at g;generalize D6 c r b=x at k f3 ⊢;generalize D4 c r b=y at k f1 f2 f3 ⊢;have v:x<4194304:=Bg f3 (Bt (by decide) f2);have h:=fun w=>PB (x:Int) (y:Int) w (by omega) (by
   unfold EG;rw[Fb];refine⟨by omega,by omega,by omega,?_⟩;rw[Do]
   exact_mod_cast f3)
  simp only[Do] at h;clear hr p q j F G f3
  go_enter func207,ntmps207
  go_wp2_with fail
  refine(g _).mono ?_;rintro e C ⟨rfl,f⟩;rw[u.out] at f;have m:=i.trans (f.mono (by omega));obtain⟨E,c1,c2,_,_,_⟩:=EH (B.out _ f)
  go_wp2_with fail
  refine(k _ (A.out _ m)).mono ?_;rintro e K ⟨rfl,s⟩;have o:=m.trans (s.mono m.size);clear E c1 c2 f i
  go_wp2_with fail
  refine(h _).mono ?_;rintro e L ⟨rfl,t⟩
  go_wp2
  go_ret2
  exact⟨rfl,o.trans (t.mono o.size)⟩
end
section
open Go.RowKit
def AZ (i:Bool):Nat:=i.toNat
def DO (x:Ev):ByteArray:=FC x.1 x.2.1 x.2.2
def BK (l:List Ev):List UInt8:=l.flatMap fun x=>(DO x).data.toList
def H6 (i:Bool)(d:Int):Bool:=if i then decide (1<=d)&&decide (d<=254) else d==0
def dcB (i:Bool)(d:Int):List UInt8:=if i then AI (if d=128 then 255 else d.toNat) 8 else []
def CI (i:Bool)(d:Int)(l:List Ev):Bool:=H6 i d && !D7 (AZ i) l l.length
def C4 (i:Bool)(d:Int)(l:List Ev):List UInt8:=dcB i d++BK l
theorem aN (i:Bool)(d:Int):AK (dcB i d)=true:=by
 unfold dcB
 split
 ·exact IW _ _
 ·rfl
theorem UJ (i:Bool)(d:Int):(dcB i d).length=8*AZ i:=by
 unfold dcB AZ;cases i
 ·rfl
 ·exact BN _ _
theorem cF (x:Ev):AK (DO x).data.toList=true:=by
 unfold DO FC
 split
 ·exact IW _ _
 ·rfl
theorem nM (x:Ev):(DO x).data.toList.length<=22:=by
 unfold DO FC
 split
 next h=>
  obtain⟨a,r1,_⟩:=KS.1 h;have:=QN x.1 x.2.1.toNat x.2.2 (by omega);show (AI _ _).length<=22;rw[BN];exact this.2.1
 ·exact Dn _
theorem sJ (l m:List Ev):BK (l++m)=BK l++BK m:=by simp[BK]
theorem Q3 (l:List Ev)(x:Ev):BK (l++[x])=BK l++(DO x).data.toList:=by simp[BK]
theorem vP (l:List Ev):AK (BK l)=true:=by
 induction l with
 |nil=>rfl
 |cons x l a=>rw[BK,G7,CX,cF,show AK (List.flatMap (fun x=>(DO x).data.toList) l)=true from a];rfl
theorem jS (l:List Ev):(BK l).length<=22*l.length:=by
 induction l with
 |nil=>exact Ba _
 |cons x l a=>
  have h1:=nM x;have h2:(List.flatMap (fun x=>(DO x).data.toList) l).length<=22*l.length:=a;rw[BK,G7,B9,Bi];omega
theorem U5 (i:Bool)(d:Int)(l:List Ev):AK (C4 i d l)=true:=by
 unfold C4;rw[CX,aN,vP]
 rfl
theorem SA (i:Bool)(d:Int)(l:List Ev):(C4 i d l).length<=8+22*l.length:=by
 have h1:=UJ i d;have h2:=jS l;have h3:AZ i<=1:=by cases i <;> decide
 unfold C4;rw[B9];omega
def evI (x:Bool×Nat×Int):Ev:=(x.1,(x.2.1:Int),x.2.2)
def CN (B:List UInt8):Nat->List Ev->Nat->Nat->List Ev×Int×Nat
 |0,_,_,_=>([],7,0)
 |k+1,acc,p,m=>
  if (etk (B.drop p)).2.1≠0 then ([],(etk (B.drop p)).2.1,0) else
  if 63<m+(etk (B.drop p)).1.2.1 then ([],7,0) else
  if (etk (B.drop p)).1.1 then (acc++[evI (etk (B.drop p)).1],0,p+(etk (B.drop p)).2.2) else
  CN B k (acc++[evI (etk (B.drop p)).1]) (p+(etk (B.drop p)).2.2) (m+(etk (B.drop p)).1.2.1+1)
theorem VJ {B:List UInt8}{k p m n:Nat}{acc:List Ev}{x:Bool×Nat×Int}{f:Int}(h:etk (B.drop p)=(x,f,n))(a:f≠0):CN B (k+1) acc p m=([],f,0):=by
 rw[CN,h,Bc a]
theorem Yo {B:List UInt8}{k p m n r:Nat}{acc:List Ev}{l:Bool}{v:Int}(h:etk (B.drop p)=((l,r,v),0,n))(hr:63<m+r):CN B (k+1) acc p m=([],7,0):=by
 rw[CN,h,Bb (fun h=>h rfl),Bc hr]
theorem S2 {B:List UInt8}{k p m n r:Nat}{acc:List Ev}{v:Int}(h:etk (B.drop p)=((true,r,v),0,n))(hr:m+r<=63):CN B (k+1) acc p m=(acc++[(true,(r:Int),v)],0,p+n):=by
 rw[CN,h,Bb (fun h=>h rfl),Bb (by simp only;omega),Bc rfl]
 rfl
theorem Rf {B:List UInt8}{k p m n r:Nat}{acc:List Ev}{v:Int}(h:etk (B.drop p)=((false,r,v),0,n))(hr:m+r<=63):CN B (k+1) acc p m=CN B k (acc++[(false,(r:Int),v)]) (p+n) (m+r+1):=by
 rw[CN,h,Bb (fun h=>h rfl),Bb (by simp only;omega),Bb (fun h=>by cases h)]
 rfl
def dcT (b:List UInt8)(i:Bool):Int×Int×Nat:=
 if i then (if b.length<8 then (0,2,0) else if num (b.take 8)=0\/num (b.take 8)=128 then (0,7,0) else (if num (b.take 8)=255 then 128 else ((num (b.take 8):Nat):Int),0,8)) else (0,0,0)
def btk (B:List UInt8)(p:Nat)(i c:Bool):Int×List Ev×Nat×Int:=
 if (dcT (B.drop p) i).2.1≠0 then (0,[],p,(dcT (B.drop p) i).2.1) else
 if c=false then ((dcT (B.drop p) i).1,[],p+(dcT (B.drop p) i).2.2,0) else
 if (CN B (65-AZ i) [] (p+(dcT (B.drop p) i).2.2) (AZ i)).2.1≠0 then (0,[],p,(CN B (65-AZ i) [] (p+(dcT (B.drop p) i).2.2) (AZ i)).2.1) else
 ((dcT (B.drop p) i).1,(CN B (65-AZ i) [] (p+(dcT (B.drop p) i).2.2) (AZ i)).1,(CN B (65-AZ i) [] (p+(dcT (B.drop p) i).2.2) (AZ i)).2.2,0)
theorem XO {B:List UInt8}{p n:Nat}{i c:Bool}{d f:Int}(h:dcT (B.drop p) i=(d,f,n))(a:f≠0):btk B p i c=(0,[],p,f):=by
 unfold btk;rw[h,Bc a]
theorem RD {B:List UInt8}{p n:Nat}{i:Bool}{d:Int}(h:dcT (B.drop p) i=(d,0,n)):btk B p i false=(d,[],p+n,0):=by
 unfold btk;rw[h,Bb (fun h=>h rfl),Bc rfl]
theorem YR {B:List UInt8}{p n e:Nat}{i:Bool}{d f:Int}{l:List Ev}(h:dcT (B.drop p) i=(d,0,n))(a:CN B (65-AZ i) [] (p+n) (AZ i)=(l,f,e))(b:f≠0):btk B p i true=(0,[],p,f):=by
 unfold btk;rw[h,Bb (fun h=>h rfl),Bb (by decide)];simp only;rw[a,Bc b]
theorem T9 {B:List UInt8}{p n e:Nat}{i:Bool}{d:Int}{l:List Ev}(h:dcT (B.drop p) i=(d,0,n))(a:CN B (65-AZ i) [] (p+n) (AZ i)=(l,0,e)):btk B p i true=(d,l,e,0):=by
 unfold btk;rw[h,Bb (fun h=>h rfl),Bb (by decide)];simp only;rw[a,Bb (fun h=>h rfl)]
theorem zA (b:List UInt8):dcT b false=(0,0,0):=rfl
theorem U8 {b:List UInt8}(h:b.length<8):dcT b true=(0,2,0):=by
 unfold dcT;rw[Bc rfl,Bc h]
theorem TB {b:List UInt8}(h:8<=b.length)(hn:num (b.take 8)=0\/num (b.take 8)=128):dcT b true=(0,7,0):=by
 unfold dcT;rw[Bc rfl,Bb (by omega),Bc hn]
theorem RH {b:List UInt8}(h:8<=b.length)(hn:num (b.take 8)=255):dcT b true=(128,0,8):=by
 unfold dcT;rw[Bc rfl,Bb (by omega),Bb (by omega),Bc hn]
theorem SR {b:List UInt8}{v:Nat}(h:8<=b.length)(hv:num (b.take 8)=v)(a:v≠0)(h1:v≠128)(h2:v≠255):dcT b true=((v:Int),0,8):=by
 unfold dcT;rw[Bc rfl,Bb (by omega),Bb (by omega),Bb (by omega),hv]
theorem bL (p:Nat):(evT p).2.1<=63:=by
 have h:∀x∈evZ,x.2.1<=63:=by decide +kernel
 unfold evT;cases hp:evZ[p]? with
 |none=>exact Dn _
 |some x=>exact h x (L8 hp)
theorem bP {b:List UInt8}{l:Bool}{r n:Nat}{v f:Int}(h:etk b=((l,r,v),f,n)):r<=63/\n<=b.length:=by
 unfold etk at h
 split at h
 ·injection h with h1 h2;injection h1 with h1 h3;injection h3 with h3 h4;injection h2 with h2 h5;omega
 split at h
 ·split at h
  ·injection h with h1 h2;injection h1 with h1 h3;injection h3 with h3 h4;injection h2 with h2 h5;omega
  split at h
  ·injection h with h1 h2;injection h2 with h2 h5;have:=(XL (num (b.take 22))).1;rw[h1] at this;simp only at this;omega
  ·injection h with h1 h2;injection h1 with h1 h3;injection h3 with h3 h4;injection h2 with h2 h5;omega
 ·split at h
  ·injection h with h1 h2;injection h1 with h1 h3;injection h3 with h3 h4;injection h2 with h2 h5;omega
  ·injection h with h1 h2;injection h2 with h2 h5;have:=bL (gtk allT b).1.toNat;unfold NA at h1;injection h1 with h1 h3;injection h3 with h3 h4;omega
theorem kH (c d n m:Nat)(hc:c<2^n)(hd:d<2^m):AI c n++AI d m=AI (c*2^m+d) (n+m):=by
 have h:=L1 (AI c n++AI d m) (by rw[CX,IW,IW];rfl);rw[B9,BN,BN,MZ,BN,IM,IM,Bn hc,Bn hd] at h;exact h.symm
theorem VU {l:Bool}{c:Nat}{a:Int}(hr:DY c a=true)(u:List UInt8):
  etk ((DO (l,(c:Int),a)).data.toList++u)=((l,c,a),0,(DO (l,(c:Int),a)).data.toList.length):=by
 obtain⟨r,v⟩:=Ai (DO (l,(c:Int),a));rw[v];unfold DO at v;simp only at v;obtain⟨B,r1,C,D,E⟩:=KS.1 hr;obtain⟨f1,f2,f3⟩:=QN l c a (by omega);have h:r.data.toList=AI (D6 l c a) (D4 l c a):=by
  rw[<-v];unfold FC;rw[Bc hr,Do]
 have j:r.data.toList.length=D4 l c a:=by rw[h,BN]
 have d:(r.data.toList++u).take (D4 l c a)=r.data.toList:=by rw[<-j,Dd]
 have q:D4 l c a<=(r.data.toList++u).length:=by rw[B9];omega
 have k:num r.data.toList=D6 l c a:=by rw[h,IM,Bn f3]
 rw[j];obtain⟨b,o⟩:=Ai (r.data.toList++u);rw[o] at d q ⊢;cases hin:inT l c a.natAbs with
 |true=>
  have x:=PP (by omega) hin;have s:=uT (by omega) hin;have f:D6 l c a=2*D1 (plT l c a.natAbs)+(if a<0 then 1 else 0):=by unfold D6;rw[hin,Bc rfl]
  have e:D4 l c a=AS (plT l c a.natAbs)+1:=by unfold D4;rw[hin,Bc rfl]
  generalize plT l c a.natAbs=p at x s f e;obtain⟨y,F,b2,_⟩:=JR p (by omega);have hs:(if a<0 then 1 else 0:Nat)<2:=by split <;> decide
  have g:(AC (HD p)).isPrefixOf b=true:=by
   rw[<-o,h,f,e,Xm,Ca,<-kH _ _ _ 1 b2 hs,Bf,Jt];exact Kb _ _
  have w:=P7 Q0 (Qy (show p<103 by omega)) (by rw[K1];exact y) (by rw[K1];omega) g;rw[K1] at w;have ht:=Sz (i:=p) (n:=AS p) w (by omega) (by rw[<-e];exact q);rw[<-e,d,k,s,f] at ht;rw[ht];unfold NA;by_cases m:a<0
  ·rw[Bc m,show (2*D1 p+1)%2=1 by omega];simp only[Jk,Kl];rw[show -((a.natAbs:Nat):Int)=a by omega]
  ·rw[Bb m,show (2*D1 p+0)%2=0 by omega];simp only[show ((0:Nat)==1)=false from rfl,Kd,Jb];rw[show ((a.natAbs:Nat):Int)=a by omega]
 |false=>
  have f:D6 l c a=((6+l.toNat)*64+c)*256+(a%256).toNat:=by unfold D6;rw[hin,Bb (by decide)]
  have e:D4 l c a=22:=by unfold D4;rw[hin,Bb (by decide)]
  have z:l.toNat<=1:=by cases l <;> decide
  have g:(AC (HD 102)).isPrefixOf b=true:=by
   have A:(AI (D6 l c a) 22).take 7=AC (HD 102):=by
    rw[S4 _ _ _ (by decide),show D6 l c a / 2^(22-7)=3 by rw[f];omega]
    decide +kernel
   rw[<-o,h,e,<-A,Jt];exact(Km 7 _).trans (Kb _ _)
  have w:=P7 Q0 (Qy (show 102<103 by decide)) (by decide +kernel) (by decide +kernel) g;have ht:=T6 (n:=(AC (HD 102)).length) w (by omega);rw[<-e,d,k] at ht;have t:EJ (D6 l c a)=(l,c,a):=by
   rw[f];unfold EJ;rw[show (((6+l.toNat)*64+c)*256+(a%256).toNat) / 16384%2=l.toNat by omega,show (((6+l.toNat)*64+c)*256+(a%256).toNat) / 256%64=c by omega,show (((6+l.toNat)*64+c)*256+(a%256).toNat)%256=(a%256).toNat by omega];rw[show (l.toNat==1)=l by cases l <;> rfl]
   congr 2
   split <;> omega
  rw[t] at ht;simp only[hr,hin,Kh,L9,Kl] at ht;rw[ht]
theorem Sn {A C:List UInt8}{p:Nat}(h:p=A.length):(A++C).drop p=C:=by rw[h,List.drop_left]
theorem Xi {a:Nat}{l:List Ev}(hl:D7 a l l.length=false)(A C:List UInt8)(p:0<l.length):∀j,j<l.length->
  (lvS a (l.take j)).1<=63/\∃k,65<=k+(lvS a (l.take j)).1/\CN (A++BK l++C) (65-a) [] A.length a=CN (A++BK l++C) k (l.take j) (A.length+(BK (l.take j)).length) (lvS a (l.take j)).1
 |0,hj=>by
  have c:=NO hl hj;unfold E8 at c;simp only[Fa,L2] at c;obtain⟨_,hn⟩:=c;rw[Bk] at hn ⊢;exact⟨by omega,65-a,by show 65<=65-a+a;omega,rfl⟩
 |j+1,hj=>by
  obtain⟨f,k,g,q⟩:=Xi hl A C p j (by omega);have c:=NO hl (show j<l.length by omega);have d:=NO hl hj;have hm:=QV a l (show j<l.length by omega);have ht:l.take (j+1)=l.take j++[l[j]'(by omega)]:=Bd (by omega);have hcut:A++BK l++C=(A++BK (l.take j))++((DO (l[j]'(by omega))).data.toList++(BK (l.drop (j+1))++C)):=by
   have:BK l=BK (l.take j)++((DO (l[j]'(by omega))).data.toList++BK (l.drop (j+1))):=by
    have e:BK (l.take (j+1)++l.drop (j+1))=BK (l.take j)++((DO (l[j]'(by omega))).data.toList++BK (l.drop (j+1))):=by
     rw[ht,sJ,Q3,Bf]
    rwa [Bs] at e
   rw[this];simp only[Bf]
  unfold E8 at c d;simp only[Fa,L2,Bm] at c d;obtain⟨⟨hr,b⟩,hn⟩:=c;obtain⟨⟨_,_⟩,hn2⟩:=d;refine⟨by omega,?_⟩;rw[q,hm,ht,Q3,B9];obtain⟨⟨s,i,o⟩,t⟩:=Ai (l[j]'(by omega));rw[t] at hr b hn hcut hm ⊢;simp only at hr b hn ⊢;obtain⟨r,rfl⟩:∃r:Nat,i=(r:Int):=⟨i.toNat,by have:=(KS.1 hr).1;omega⟩
  have h:s=false:=by rw[b];simp;omega
  subst h;rw[Do] at hn ⊢;generalize (lvS a (l.take j)).1=m at f hn g ⊢;have u:=VU (l:=false) hr (BK (l.drop (j+1))++C);obtain⟨k,rfl⟩:∃w,k=w+1:=⟨k-1,by omega⟩;refine⟨k,by omega,?_⟩;rw[Rf (r:=r) (v:=o) (n:=(DO (false,(r:Int),o)).data.toList.length) (by rw[hcut,Sn (by rw[B9]),u]) (by omega),Bz]
theorem vZ {a:Nat}{l:List Ev}(hl:D7 a l l.length=false)(A C:List UInt8)(q:0<l.length):
  CN (A++BK l++C) (65-a) [] A.length a=(l,0,A.length+(BK l).length):=by
 obtain⟨j,hj⟩:∃j,l.length=j+1:=⟨l.length-1,by omega⟩;have c:j<l.length:=by omega
 obtain⟨f,k,g,s⟩:=Xi hl A C q j c;have h:=NO hl c;have ht:l=l.take j++[l[j]]:=by
  conv=>lhs;rw[<-Jv (l:=l),hj,Bd c]
 have hcut:A++BK l++C=(A++BK (l.take j))++((DO l[j]).data.toList++C):=by
  have:BK l=BK (l.take j)++(DO l[j]).data.toList:=by
   conv=>lhs;rw[ht]
   rw[Q3]
  rw[this];simp only[Bf]
 have d:(BK l).length=(BK (l.take j)).length+(DO l[j]).data.toList.length:=by
  conv=>lhs;rw[ht]
  rw[Q3,B9]
 unfold E8 at h;simp only[Fa,L2,Bm] at h;obtain⟨⟨hr,b⟩,hn⟩:=h;rw[s];have e:l.take j++[l[j]]=l:=ht.symm;obtain⟨⟨t,o,p⟩,u⟩:=Ai (l[j]);rw[u] at hr b hn hcut d e;simp only at hr b hn;obtain⟨r,rfl⟩:∃r:Nat,o=(r:Int):=⟨o.toNat,by have:=(KS.1 hr).1;omega⟩;have i:t=true:=by rw[b];simp;omega
 subst i;rw[Do] at hn;generalize (lvS a (l.take j)).1=m at f hn g;have w:=VU (l:=true) hr C;obtain⟨k,rfl⟩:∃x,k=x+1:=⟨k-1,by omega⟩;rw[S2 (r:=r) (v:=p) (n:=(DO (true,(r:Int),p)).data.toList.length) (by rw[hcut,Sn (by rw[B9]),w]) (by omega),e,d,Bz]
theorem oH {i:Bool}{d:Int}{l:List Ev}(hm:CI i d l=true)(A C:List UInt8):
  btk (A++C4 i d l++C) A.length i (decide (0<l.length))=(d,l,A.length+(C4 i d l).length,0):=by
 unfold CI at hm;rw[Fa,L6] at hm;obtain⟨hd,hl⟩:=hm;have c:dcT ((A++C4 i d l++C).drop A.length) i=(d,0,(dcB i d).length):=by
  rw[Bf,Sn rfl];unfold C4;rw[Bf];cases i with
  |false=>
   have:d=0:=by simpa [H6] using hd
   subst this
   rfl
  |true=>
   have m:1<=d/\d<=254:=by simpa [H6] using hd
   have e:=UJ true d;have k:(dcB true d).length=8:=e;have f:(dcB true d++(BK l++C)).take 8=dcB true d:=by rw[<-k,Dd]
   have g:8<=(dcB true d++(BK l++C)).length:=by rw[B9];omega
   have a:num (dcB true d)=if d=128 then 255 else d.toNat:=by
    unfold dcB;rw[Bc rfl,IM,Bn]
    split <;> omega
   rw[k];by_cases b:d=128
   ·subst b;exact RH g (by rw[f,a,Bc rfl])
   ·rw[Bb b] at a;rw[SR g (by rw[f,a]) (by omega) (by omega) (by omega)];rw[Cb (by omega)]
 have h:(C4 i d l).length=(dcB i d).length+(BK l).length:=by unfold C4;rw[B9]
 by_cases j:0<l.length
 ·rw[Kp j];have:=vZ hl (A++dcB i d) C j;rw[B9] at this;rw[T9 c (by rw[show A++C4 i d l++C=A++dcB i d++BK l++C by unfold C4;simp only[Bf]];exact this),h,Bz]
 ·rw[Ko j];have hn:l=[]:=Dh (by omega);subst hn;rw[RD c,h]
  rfl
theorem aE {d:Int}:H6 false d=(d==0):=rfl
theorem VF {d:Int}:H6 true d=(decide (1<=d)&&decide (d<=254)):=rfl
theorem Qs {a:Nat}{l:List Ev}(h:D7 a l l.length=false):l.length<=64:=by
 have b:∀j,j<=l.length->j<=(lvS a (l.take j)).1:=by
  intro j
  induction j with
  |zero=>intro _;exact Dn _
  |succ j d=>
   intro hj;have h1:=d (by omega);have h2:=QV a l (show j<l.length by omega);rw[h2];simp only;omega
 by_cases c:l.length<=64
 ·exact c
 ·exfalso;have h1:=NO h (show 64<l.length by omega);have h2:=b 64 (by omega);unfold E8 at h1;simp only[Fa,L2] at h1;omega
theorem pB {a:Nat}{l:List Ev}(h:D7 a l l.length=false){j:Nat}(hj:j<l.length):DY l[j].2.1 l[j].2.2=true:=by
 have h1:=NO h hj;unfold E8 at h1;simp only[Fa] at h1;exact h1.1.1
theorem PW {i:Bool}{d:Int}{l:List Ev}(h:CI i d l=true):H6 i d=true/\D7 (AZ i) l l.length=false:=by
 unfold CI at h;rw[Fa,L6] at h;exact h
theorem UV {i:Bool}{l:List Ev}(h:D7 (AZ i) l l.length=false):(lvG l ((AZ i:Nat):Int)).2=0:=by
 unfold lvG;rw[Bc (by cases i;exact .inl rfl;exact .inr rfl),Do,Bb (by rw[h];decide)]
theorem YS {i:Bool}{l:List Ev}(h:D7 (AZ i) l l.length=true):(lvG l ((AZ i:Nat):Int)).2=7:=by
 unfold lvG;rw[Bc (by cases i;exact .inl rfl;exact .inr rfl),Do,Bc h]
theorem TY (B:List UInt8):∀(k:Nat) (acc:List Ev) (p m:Nat),(CN B k acc p m).1.length<=acc.length+k
 |0,acc,p,m=>Dn _
 |k+1,acc,p,m=>by
  rw[CN]
  split
  ·exact Dn _
  split
  ·exact Dn _
  split
  ·simp only[B9,Bi,By];omega
  ·refine Ea (TY B k _ _ _) ?_;simp only[B9,Bi,By];omega
theorem kP (B:List UInt8)(p:Nat)(i c:Bool):(btk B p i c).2.1.length<=65:=by
 unfold btk
 split
 ·exact Dn _
 split
 ·exact Dn _
 split
 ·exact Dn _
 ·refine Ea (TY _ _ _ _ _) ?_;simp
def EvR (S:List UInt8)(a p:Nat)(acc:List Ev)(m t:Nat):Prop:=∃k,65<=k+m/\CN S (65-a) [] p a=CN S k acc t m
theorem EvR.first (S:List UInt8)(a p:Nat):EvR S a p [] a p:=⟨65-a,by omega,rfl⟩
theorem EvR.err {S:List UInt8}{a p m t n:Nat}{acc:List Ev}{x:Bool×Nat×Int}{f:Int}(h:EvR S a p acc m t)(hm:m<=64)(b:etk (S.drop t)=(x,f,n))(c:f≠0):CN S (65-a) [] p a=([],f,0):=by
 obtain⟨k,e,h⟩:=h;obtain⟨k,rfl⟩:∃d,k=d+1:=⟨k-1,by omega⟩;rw[h,VJ b c]
theorem EvR.far {S:List UInt8}{a p m t n r:Nat}{acc:List Ev}{l:Bool}{v:Int}(h:EvR S a p acc m t)(hm:m<=64)(b:etk (S.drop t)=((l,r,v),0,n))(hr:63<m+r):CN S (65-a) [] p a=([],7,0):=by
 obtain⟨k,d,h⟩:=h;obtain⟨k,rfl⟩:∃c,k=c+1:=⟨k-1,by omega⟩;rw[h,Yo b hr]
theorem EvR.end {S:List UInt8}{a p m t n r:Nat}{acc:List Ev}{v:Int}(h:EvR S a p acc m t)(_:m<=64)(b:etk (S.drop t)=((true,r,v),0,n))(hr:m+r<=63):CN S (65-a) [] p a=(acc++[(true,(r:Int),v)],0,t+n):=by
 obtain⟨k,d,h⟩:=h;obtain⟨k,rfl⟩:∃c,k=c+1:=⟨k-1,by omega⟩;rw[h,S2 b hr]
theorem EvR.on {S:List UInt8}{a p m t n r:Nat}{acc:List Ev}{v:Int}(h:EvR S a p acc m t)(_:m<=64)(b:etk (S.drop t)=((false,r,v),0,n))(hr:m+r<=63):EvR S a p (acc++[(false,(r:Int),v)]) (m+r+1) (t+n):=by
 obtain⟨k,d,h⟩:=h;obtain⟨k,rfl⟩:∃c,k=c+1:=⟨k-1,by omega⟩;exact⟨k,by omega,by rw[h,Rf b hr]⟩
theorem S3 (i:Bool)(w:A5):A9 prog 206 #[.bool i] w fun e a=>e=.returned (.int .i64 (AZ i:Nat))/\w=a:=by
 cases i
 all_goals
  go_enter func206,ntmps206
  go_wp2
  go_ret
  exact⟨rfl,rfl⟩
def E3 (B:Nat)(q:Option Aa):Prop:=∀x,q=some x->B<=x.block
theorem E3.none (B:Nat):E3 B none:=fun _ h=>by cases h
theorem E3.mono {A B:Nat}{q:Option Aa}(h:E3 B q)(a:A<=B):E3 A q:=fun x b=>Ea a (h x b)
theorem bI {w:A5}{B e c n k:Nat}{q:Option Aa}{l:List Value}{m:Nat}(h:w.ownsRow B e c (.slice q n k) m l):E3 B q:=fun x a=>(h.lt x.block (by rw[a];rfl)).1
end
section
def AE (k:Int):Bool:=k==3 || k==4
def NQ (k:Int):Bool:=k==1 || k==4
def JT (inter:Bool):List UInt8:=if inter then [48] else []
def KB (inter:Bool):List UInt8:=JT inter++(B1 inter 5 0).data.toList
def HK (inter:Bool)(n:Nat):List UInt8:=(List.replicate n (KB inter)).flatten
theorem MD (inter:Bool)(n:Nat):HK inter (n+1)=KB inter++HK inter n:=rfl
def EQ (c:Cel)(i:Nat):Nat:=(decide (0<(c.ev i).length)).toNat
theorem Sh (c:Cel)(i:Nat):EQ c i<=1:=by unfold EQ;cases decide (0<(c.ev i).length) <;> decide
def BJ (c:Cel):Nat->Nat
 |0=>0
 |i+1=>2*BJ c i+EQ c i
def D3 (c:Cel):Nat:=2*EQ c 4+EQ c 5
theorem Qt (c:Cel):BJ c 4=8*EQ c 0+4*EQ c 1+2*EQ c 2+EQ c 3:=by
 simp only[BJ];omega
theorem Q2 (c:Cel):BJ c 6=4*BJ c 4+D3 c:=by
 simp only[BJ,D3];omega
theorem Tl (c:Cel):BJ c 4<16/\D3 c<4/\BJ c 6<64:=by
 have h:=fun i=>Sh c i;have a:=h 0;have h1:=h 1;have h2:=h 2;have h3:=h 3;have h4:=h 4;have b:=h 5;rw[Q2,Qt];unfold D3;omega
def LD (k x y mx my:Int):List UInt8:=if AE k then [] else (C2 (AM (mx-AM x))).data.toList++(C2 (AM (my-AM y))).data.toList
def CU (c:Cel):Nat->List UInt8
 |0=>[]
 |i+1=>CU c i++C4 (AE c.kind) (c.dc i) (c.ev i)
def DZ (inter:Bool)(x y:Int)(c:Cel):List UInt8:=
 HK inter c.stuff.toNat++(if c.skip then [49] else JT inter++(B1 inter c.kind (D3 c:Nat)).data.toList++(F0 (AE c.kind) (BJ c 4:Nat)).data.toList++(CJ c.step).data.toList++LD c.kind x y c.mx c.my++CU c 6)
def FY (c:Cel):Bool:=(c.kind==0&&c.step==0&&(c.mx==0&&c.my==0))&&((List.range 6).all (fun i=>c.dc i==0)&&(List.range 6).all (fun i=>decide ((c.ev i).length=0)))
def EI (inter:Bool)(k:Int):Bool:=(k==3 || k==4) || (inter&&(k==0 || k==1))
def EV (k s:Int):Bool:=if NQ k then !(CJ s).data.toList.isEmpty else s==0
def H4 (k mx my:Int):Bool:=if AE k then mx==0&&my==0 else mx==AM mx&&my==AM my
def EE (c:Cel):Bool:=(List.range 6).all fun i=>CI (AE c.kind) (c.dc i) (c.ev i)
def BE (inter:Bool)(c:Cel):Bool:=
 (decide (0<=c.stuff)&&decide (c.stuff<=64))&&(if c.skip then inter&&FY c else (EI inter c.kind&&EV c.kind c.step)&&(H4 c.kind c.mx c.my&&EE c))
theorem PL {s:Int}:(CJ s).data.toList.isEmpty=false↔(s = -1\/s = -2\/s=1\/s=2):=by
 unfold CJ;by_cases h1:s = -1
 ·simp[h1]
 by_cases h2:s = -2
 ·simp[h2]
 by_cases h3:s=1
 ·simp[h3]
 by_cases h4:s=2
 ·simp[h4]
 simp[h1,h2,h3,h4]
theorem O2 {c:Cel}:EE c=true↔∀i,i<6->CI (AE c.kind) (c.dc i) (c.ev i)=true:=by
 unfold EE;rw[Bu];exact⟨fun h i hi=>h i (Bq.2 hi),fun h i hi=>h i (Bq.1 hi)⟩
theorem JL (n:Int):-32<=AM n/\AM n<=31:=by unfold AM;omega
theorem MG {n:Int}:n=AM n↔(-32<=n/\n<=31):=by unfold AM;omega
theorem Px (inter:Bool)(k c:Int):AK (B1 inter k c).data.toList=true/\(B1 inter k c).data.toList.length<=9:=by
 have a:∀l:List ByteArray,(∀x∈l,AK x.data.toList=true/\x.data.toList.length<=9)->AK (l[c.toNat]?.getD ⟨#[]⟩).data.toList=true/\(l[c.toNat]?.getD ⟨#[]⟩).data.toList.length<=9:=by
  intro l hl;cases hx:l[c.toNat]? with
  |none=>exact⟨rfl,Dn _⟩
  |some x=>exact hl x (L8 hx)
 unfold B1
 split
 ·refine a _ ?_;cases inter with
  |true=>
   show∀x∈KN k,_;unfold KN
   repeat' split
   all_goals decide +kernel
  |false=>
   show∀x∈KL k,_;unfold KL
   repeat' split
   all_goals decide +kernel
 ·exact⟨rfl,Dn _⟩
theorem Tv (intra:Bool)(k:Int):AK (F0 intra k).data.toList=true/\(F0 intra k).data.toList.length<=6:=by
 have hl:∀x∈EY,AK x.data.toList=true/\x.data.toList.length<=6:=by decide +kernel
 unfold F0
 split
 ·cases hx:EY[ER intra k.toNat]? with
  |none=>exact⟨rfl,Dn _⟩
  |some x=>exact hl x (L8 hx)
 ·exact⟨rfl,Dn _⟩
theorem R5 (s:Int):AK (CJ s).data.toList=true/\(CJ s).data.toList.length<=2:=by
 unfold CJ
 repeat' split
 all_goals exact⟨rfl,by decide⟩
theorem PV (d:Int):AK (C2 d).data.toList=true/\(C2 d).data.toList.length<=13:=by
 by_cases h:-32<=d/\d<=31
 ·rw[Tc h];have:=RM h;exact⟨IW _ _,by show (AI _ _).length<=13;rw[BN];omega⟩
 ·rw[Sr (by omega)];exact⟨rfl,Dn _⟩
theorem TW (k x y mx my:Int):AK (LD k x y mx my)=true/\(LD k x y mx my).length<=26:=by
 unfold LD
 split
 ·exact⟨rfl,Dn _⟩
 ·have h1:=PV (AM (mx-AM x));have h2:=PV (AM (my-AM y));exact⟨by rw[CX,h1.1,h2.1];rfl,by rw[B9];omega⟩
theorem Qi (inter:Bool):AK (JT inter)=true/\(JT inter).length<=1:=by cases inter <;> decide
theorem Xc (inter:Bool):AK (KB inter)=true/\(KB inter).length<=10:=by
 have h1:=Qi inter;have h2:=Px inter 5 0;unfold KB;exact⟨by rw[CX,h1.1,h2.1];rfl,by rw[B9];omega⟩
theorem Qx (inter:Bool):∀n,AK (HK inter n)=true/\(HK inter n).length<=10*n
 |0=>⟨rfl,Ba _⟩
 |n+1=>by
  have h1:=Xc inter;have h2:=Qx inter n;rw[MD];exact⟨by rw[CX,h1.1,h2.1];rfl,by rw[B9];omega⟩
theorem Zw (c:Cel):∀i,AK (CU c i)=true
 |0=>rfl
 |i+1=>by
  show AK (CU c i++C4 (AE c.kind) (c.dc i) (c.ev i))=true;rw[CX,Zw c i,U5]
  rfl
theorem SK {c:Cel}{n:Nat}:∀i,(∀j,j<i->(c.ev j).length<=n)->(CU c i).length<=(8+22*n)*i
 |0,_=>Ba _
 |i+1,h=>by
  have h1:=SK i fun j hj=>h j (by omega);have h2:=SA (AE c.kind) (c.dc i) (c.ev i);have h3:=h i (by omega);show (CU c i++C4 (AE c.kind) (c.dc i) (c.ev i)).length<=_;rw[B9,Nat.mul_add,Iq];omega
theorem aF (inter:Bool)(x y:Int)(c:Cel):AK (DZ inter x y c)=true:=by
 unfold DZ;rw[CX,(Qx inter _).1,Jw]
 split
 ·rfl
 ·simp only[CX,(Qi inter).1,(Px _ _ _).1,(Tv _ _).1,(R5 _).1,(TW _ _ _ _ _).1,Zw,Bool.and_self]
theorem dF {inter:Bool}{x y:Int}{c:Cel}(hs:c.stuff.toNat<=64)(h:∀i,i<6->(c.ev i).length<=100):(DZ inter x y c).length<=20000:=by
 have h1:=(Qx inter c.stuff.toNat).2;have h2:=SK 6 h;have h3:=(Qi inter).2;have h4:=(Px inter c.kind (D3 c:Nat)).2;have a:=(Tv (AE c.kind) (BJ c 4:Nat)).2;have b:=(R5 c.step).2;have d:=(TW c.kind x y c.mx c.my).2;unfold DZ;rw[B9]
 split
 ·simp only[Bi,By];omega
 ·simp only[B9];omega
end
section
open Go.RowKit Go.Lib
theorem FM {x:A5}{rb p:Nat}{s:ByteArray}{a:Aa}{v:Value}(h:AG x rb s p)(b:rb≠a.block):AG (x.setCell a v) rb s p:=h.grown (DC x a v) b
def xO (v n:Nat)(w:A5)(e:Ae)(a:A5):Prop:=
 ((∃i:Nat,i<103/\JD v n i=true/\e=.returned (.tuple #[.int .i64 (i:Int),.bool true]))\/((∀i,i<103->JD v n i=false)/\e=.returned (.tuple #[.int .i64 0,.bool false])))/\Below w.heap.size w a
set_option maxRecDepth 100000 in
theorem yT (v n:Nat)(hn:n<=12)(w:A5)(D:BD w):A9 prog 313 #[.int .i64 (v:Int),.int .i64 (n:Int)] w (xO v n w):=by
 have F:=Dl (fun(x:A5) (G:Below w.heap.size w x)=>(D.below G:BD x));have t:Below w.heap.size w w:=Dm _ _;clear D
 go_enter func313,ntmps313
 go_wp2
 go_loopw [9] (fun u wr=>∃i:Nat,i<=103/\u=.int .i64 i/\Below w.heap.size w wr/\Hid (∀j,j<i->JD v n j=false)) (fun u _=>103-(intOf u).toNat)
 case atStart=>exact⟨0,by omega,rfl,t,Dl (fun j h=>absurd h (Fc j))⟩
 case round=>
  clear t;obtain⟨i,hi,rfl,o,p⟩:=hrel;by_cases f:i<103
  ·have hc:=OQ i f wr (F.out _ o);obtain⟨H,I,b2,b3⟩:=JR i f;clear b2;have b:JD v n i=(D1 i / 2^(AS i-n)==v / 2^(n-AS i)):=rfl;have g:∀r,JD v n i=r->r=false->∀j,j<i+1->JD v n j=false:=by
    intro r h1 h2 j hj;by_cases e:j=i
    ·subst e;rw[h1,h2]
    ·exact p.out j (by omega)
   have l:=Dl g;generalize D1 i=x at hc b3 b;generalize AS i=y at hc H I b;have t9:decide ((i:Int)<103)=true:=by simp;omega
   have s:=o.size;clear p g;rcases Nat.lt_trichotomy n y with q|q|q
   ·obtain⟨k,rfl⟩:∃k,y=n+k:=⟨y-n,by omega⟩;have J:0<k:=by omega
    rw[Bv,show n-(n+k)=0 by omega,Fm,Fl] at b;have z:IntKind.i64.wrap ((n:Int)+k-n)=(k:Int):=(Kx _ (by omega)).trans (by omega);have C:IntKind.i64.wrap ((n:Int)-((n:Int)+k)) = -(k:Int):=(Kx _ (by omega)).trans (by omega);have a:((x:Int) / 2^k==(v:Int))=(x / 2^k==v):=by
     rw[Ju,Bm,Bm,<-La];simp
    cases hg:((x:Int) / 2^k==(v:Int)) with
    |true=>
     have m:=Dl (b.trans (a.symm.trans hg));clear b a
     go_wp2_with fail
     refine hc.mono ?_;rintro e A ⟨rfl,c⟩;have d:=(o.trans (c.mono s)).drew
     go_wp2
     go_region
     go_wp2
     go_ret2
     exact⟨.inl ⟨i,f,m.out,rfl⟩,d⟩
    |false=>
     have m:=Dl (b.trans (a.symm.trans hg));clear b a
     go_wp2_with fail
     refine hc.mono ?_;rintro e A ⟨rfl,c⟩;have d:=(o.trans (c.mono s)).drew
     go_wp2
     go_region
     go_wp2
     go_roundw
     case rel=>exact⟨i+1,by omega,by go_num,d,Dl (l.out _ m.out rfl)⟩
     case measure=>simp[intOf];omega
   ·subst q;rw[Cl,Fm,Fl,Fl] at b;have z:IntKind.i64.wrap ((n:Int)-n)=0:=(Kx _ (by omega)).trans (by omega);have a:((x:Int)==(v:Int))=(x==v):=by
     rw[Ju,Bm,Bm,<-La]
    cases hg:((x:Int)==(v:Int)) with
    |true=>
     have m:=Dl (b.trans (a.symm.trans hg));clear b a
     go_wp2_with fail
     refine hc.mono ?_;rintro e A ⟨rfl,c⟩;have d:=(o.trans (c.mono s)).drew
     go_wp2
     go_region
     go_wp2
     go_ret2
     exact⟨.inl ⟨i,f,m.out,rfl⟩,d⟩
    |false=>
     have m:=Dl (b.trans (a.symm.trans hg));clear b a
     go_wp2_with fail
     refine hc.mono ?_;rintro e A ⟨rfl,c⟩;have d:=(o.trans (c.mono s)).drew
     go_wp2
     go_region
     go_wp2
     go_roundw
     case rel=>exact⟨i+1,by omega,by go_num,d,Dl (l.out _ m.out rfl)⟩
     case measure=>simp[intOf];omega
   ·obtain⟨k,B⟩:=Ai (n-y);have J:0<k:=by omega
    rw[B,show y-n=0 by omega,Fm,Fl] at b;have z:IntKind.i64.wrap ((n:Int)-y)=(k:Int):=(Kx _ (by omega)).trans (by omega);have C:IntKind.i64.wrap ((y:Int)-n) = -(k:Int):=(Kx _ (by omega)).trans (by omega);have E:k<=12:=by omega
    clear B;have a:((x:Int)==(v:Int) / 2^k)=(x==v / 2^k):=by
     rw[Ju,Bm,Bm,<-La];simp
    cases hg:((x:Int)==(v:Int) / 2^k) with
    |true=>
     have m:=Dl (b.trans (a.symm.trans hg));clear b a
     go_wp2_with fail
     refine hc.mono ?_;rintro e A ⟨rfl,c⟩;have d:=(o.trans (c.mono s)).drew
     go_wp2
     go_region
     go_wp2
     go_ret2
     exact⟨.inl ⟨i,f,m.out,rfl⟩,d⟩
    |false=>
     have m:=Dl (b.trans (a.symm.trans hg));clear b a
     go_wp2_with fail
     refine hc.mono ?_;rintro e A ⟨rfl,c⟩;have d:=(o.trans (c.mono s)).drew
     go_wp2
     go_region
     go_wp2
     go_roundw
     case rel=>exact⟨i+1,by omega,by go_num,d,Dl (l.out _ m.out rfl)⟩
     case measure=>simp[intOf];omega
  ·obtain rfl:i=103:=by omega
   go_wp2
   go_ret2
   exact⟨.inr ⟨p.out,rfl⟩,o⟩
def ZE (a:List UInt8)(w:A5)(e:Ae)(b:A5):Prop:=
 ((∃i:Nat,i<103/\gtk allT a=((i:Int),0,AS i)/\AS i<=a.length/\e=.returned (.tuple #[.int .i64 (i:Int),.int .i64 0]))\/
  (∃f:Int,f≠0/\gtk allT a=(0,f,0)/\e=.returned (.tuple #[.int .i64 0,.int .i64 f])))/\Below w.heap.size w b
theorem dW (w:A5)(rb:Nat)(s:ByteArray)(p:Nat)(Y:BD w)(hr:AG w rb s p):
  A9 prog 289 #[.pointer (some ⟨rb,0,none⟩)] w (ZE ((AA s.data.toList).drop p) w):=by
 obtain⟨K,m⟩:=Ai ((AA s.data.toList).drop p);have U:s.data.toList.length=s.size:=rfl;have ab:=hr.2.1;have V:K.length=8*s.size-p:=by rw[<-m,Bj,BB];rfl
 have o:AK K=true:=by rw[<-m];exact FO _ _ (K0 _)
 obtain⟨n,hn⟩:∃n,n=min 12 K.length:=⟨_,rfl⟩;have q:AD s.data.toList p n=num (K.take n):=by unfold AD;rw[m]
 obtain⟨v,hv⟩:=Ai (num (K.take n));have r:ask s.data.toList p (n:Int)=((v:Int),0):=by
  rw[E7 (n:=(n:Int)) (by omega) (by rw[U];omega),Do,q,hv]
 have Z:v<4294967296:=by
  have h1:=O3 K o n (by omega);have h2:2^n<=2^12:=Bt (by decide) (by omega);rw[hv] at h1;omega
 have M:n<=12:=by omega
 obtain⟨N,G⟩:∃N:Int,(n:Int)=N:=⟨_,rfl⟩;have F:min 12 (8*(s.size:Int)-p)=N:=by omega
 have H:=fun x O=>yT v n M x O;rw[G] at r H;have A:=Dl r;have j:=Dl o;have L:=Dl hn;have R:=Dl hv;have S:=Dl G;have C:=fun i hi x O=>OQ i hi x O;have T:=Dl (fun(x:A5) (O:Below w.heap.size w x)=>(Y.below O:BD x));have aa:=Dl F;rw[m];clear r F o hn hv m q V Y G
 go_enter func289,ntmps289
 go_wp2_with fail
 refine(Pr _ _ _ _ hr).mono ?_;rintro e w1 ⟨rfl,k⟩;have D:=hr.below k;have E:=k.size;clear hr
 go_wp2_with fail
 ·obtain rfl:N=8*(s.size:Int)-p:=by have:=aa.out;omega
  refine(FD _ _ _ _ _ D).mono ?_;rintro e w2 ⟨rfl,t⟩;rw[A.out];have b:=k.trans (t.mono E);have f:=b.size;have u:=T.out _ b;clear k t E D
  go_wp2_with fail
  refine(H _ u).mono ?_;rintro e w3 ⟨⟨i,hi,a,rfl⟩|⟨I,rfl⟩,g⟩
  ·have d:=b.trans (g.mono f);have z:=d.size;have B:=T.out _ d;rw[<-R.out] at a;clear b g f u;by_cases hl:AS i<=n
   ·obtain⟨f1,f2⟩:=WE L.out hi a j.out hl;have l:=Dl f1;have P:=Dl f2;have hc:=C i hi _ B;have W:=Dl hi;have c:(AS i:Int)<=(n:Int):=by omega
    rw[S.out] at c;clear f1 f2 a hl hi;obtain⟨y,J⟩:=Ai (AS i);rw[J] at hc c l P;have Q:=Dl J;clear J
    go_wp2_with fail
    refine hc.mono ?_;rintro e X ⟨rfl,h⟩
    go_wp2
    go_ret2
    exact⟨.inl ⟨i,W.out,by rw[Q.out];exact l.out,by rw[Q.out];exact P.out,rfl⟩,d.trans (h.mono z)⟩
   ·have l:=Dl (Ub L.out hi a j.out (by omega));have hc:=C i hi _ B;have c:(n:Int)<(AS i:Int):=by omega
    rw[S.out] at c;generalize AS i=y at hc c;clear a hl hi
    go_wp2_with fail
    refine hc.mono ?_;rintro e X ⟨rfl,h⟩
    go_wp2
    go_ret2
    exact⟨.inr ⟨2,by decide,l.out,rfl⟩,d.trans (h.mono z)⟩
  ·have l:=Dl (VN L.out (fun i hi=>by rw[R.out];exact I i hi) j.out)
   go_wp2
   go_ret2
   exact⟨.inr ⟨3,by decide,l.out,rfl⟩,b.trans (g.mono f)⟩
 ·obtain rfl:N=12:=by have:=aa.out;omega
  refine(FD _ _ _ _ _ D).mono ?_;rintro e w2 ⟨rfl,t⟩;rw[A.out];have b:=k.trans (t.mono E);have f:=b.size;have u:=T.out _ b;clear k t E D
  go_wp2_with fail
  refine(H _ u).mono ?_;rintro e w3 ⟨⟨i,hi,a,rfl⟩|⟨I,rfl⟩,g⟩
  ·have d:=b.trans (g.mono f);have z:=d.size;have B:=T.out _ d;rw[<-R.out] at a;clear b g f u;by_cases hl:AS i<=n
   ·obtain⟨f1,f2⟩:=WE L.out hi a j.out hl;have l:=Dl f1;have P:=Dl f2;have hc:=C i hi _ B;have W:=Dl hi;have c:(AS i:Int)<=(n:Int):=by omega
    rw[S.out] at c;clear f1 f2 a hl hi;obtain⟨y,J⟩:=Ai (AS i);rw[J] at hc c l P;have Q:=Dl J;clear J
    go_wp2_with fail
    refine hc.mono ?_;rintro e X ⟨rfl,h⟩
    go_wp2
    go_ret2
    exact⟨.inl ⟨i,W.out,by rw[Q.out];exact l.out,by rw[Q.out];exact P.out,rfl⟩,d.trans (h.mono z)⟩
   ·have l:=Dl (Ub L.out hi a j.out (by omega));have hc:=C i hi _ B;have c:(n:Int)<(AS i:Int):=by omega
    rw[S.out] at c;generalize AS i=y at hc c;clear a hl hi
    go_wp2_with fail
    refine hc.mono ?_;rintro e X ⟨rfl,h⟩
    go_wp2
    go_ret2
    exact⟨.inr ⟨2,by decide,l.out,rfl⟩,d.trans (h.mono z)⟩
  ·have l:=Dl (VN L.out (fun i hi=>by rw[R.out];exact I i hi) j.out)
   go_wp2
   go_ret2
   exact⟨.inr ⟨3,by decide,l.out,rfl⟩,b.trans (g.mono f)⟩
def P2 (s:ByteArray)(rb p:Nat)(w:A5)(e:Ae)(a:A5):Prop:=
 e=.returned (.tuple #[OB (etk ((AA s.data.toList).drop p)).1,.int .i64 (etk ((AA s.data.toList).drop p)).2.1])/\
  AG a rb s (p+(etk ((AA s.data.toList).drop p)).2.2)/\w.grownBy a (some rb)
theorem R9 {s:ByteArray}{rb p n:Nat}{w a:A5}{l:Bool}{r:Nat}{v f:Int}(h:etk ((AA s.data.toList).drop p)=((l,r,v),f,n))(hr:AG a rb s (p+n))(b:w.grownBy a (some rb)):
  P2 s rb p w (.returned (.tuple #[.agg #[.bool l,.int .i64 (r:Int),.int .i64 v],.int .i64 f])) a:=by
 unfold P2;rw[h];exact⟨rfl,hr,b⟩
theorem PY {s:ByteArray}{rb p:Nat}{w a:A5}{f:Int}(h:etk ((AA s.data.toList).drop p)=((false,0,0),f,0))(hr:AG a rb s p)(b:w.grownBy a (some rb)):
  P2 s rb p w (.returned (.tuple #[.agg #[.bool false,.int .i64 0,.int .i64 0],.int .i64 f])) a:=R9 (r:=0) (n:=0) h hr b
theorem xV (w:A5)(rb:Nat)(s:ByteArray)(p:Nat)(hp:BD w)(hr:AG w rb s p):
  A9 prog 268 #[.pointer (some ⟨rb,0,none⟩)] w (P2 s rb p w):=by
 obtain⟨bs,Z⟩:=Ai ((AA s.data.toList).drop p);have a0:s.data.toList.length=s.size:=rfl;have b7:=hr.2.1;have b3:=hr.2.2;have a1:bs.length=8*s.size-p:=by rw[<-Z,Bj,BB];rfl
 have aa:∀n,AD s.data.toList p n=num (bs.take n):=fun n=>by unfold AD;rw[Z]
 have a2:=hr.lt;obtain⟨B,hB⟩:=Ai w.heap.size;have a:rb≠B:=by omega
 obtain⟨W,ab⟩:=Ai (w.alloc (.cells #[.bool false,.int .i64 0,.int .i64 0] 153 (0,0)));have al:Below B w W:=by rw[<-ab,<-hB];exact(Dm _ w).alloc (Ba _) _
 have am:W.heap.size=B+1:=by rw[<-ab,<-hB];simp
 have a3:W.heap[B]? =some (BW false 0 0):=by rw[<-ab,<-hB];exact heap_alloc_new w _
 have av:AG W rb s p:=hr.below (by rw[hB];exact al);have aw:BD W:=hp.below (by rw[hB];exact al);have a4:=dW W rb s p aw av;rw[Z] at a4;have a5:=Dl (fun(x:A5) (R:Below (B+1) W x)=>((R.block B (by omega)).trans a3:x.heap[B]? =some (BW false 0 0)));have X:=Dl (fun(x:A5) (R:Below (B+1) W x)=>(av.below (by rw[am];exact R):AG x rb s p))
 have bp:=Dl (fun(x:A5) (R:Below (B+1) W x)=>(aw.below (by rw[am];exact R):BD x));have a6:=Dl (fun(x:A5) (R:Below (B+1) W x)=>(by
  have h:=al.trans (R.mono (by omega));rw[<-hB] at h;exact⟨h.os,h.tape,h.output,h.size,fun k hk _=>h.block k hk⟩:w.grownBy x (some rb)))
 have b8:=Dl hB;have Y:=Dl Z;have bq:=Dl a1;have b9:=Dl aa;have bt:=Dl ab;have b:w.heap.size<=B:=by omega
 clear hB ab al a3 av aw hp hr Z a1 aa a2
 go_enter func268,ntmps268
 go_wp2_with fail
 rw[bt.out,b8.out];refine a4.mono ?_;rintro e w2 ⟨⟨i,hi,hg,an,rfl⟩|⟨f,hf,hg,rfl⟩,d⟩
 all_goals rw[am] at d
 ·obtain⟨n,hn⟩:=Ai (if i=102 then 22 else AS i+1:Nat);have N:=R1 i hi w2 (bp.out _ d);rw[hn] at N;have q:=d.size;rw[am] at q;have b4:n<=22:=by
   rw[<-hn];have:=(JR i hi).2.1
   split <;> omega
  have ca:1<=n:=by rw[<-hn];split <;> omega
  have ch:=Dl hn;have cb:=Dl hg;have ci:=Dl hi;by_cases ac:bs.length<n
  ·have F:=Dl (Uv hg (by rw[hn];exact ac));have A:=Dl (show ask s.data.toList p (n:Int)=(0,2) from FG (by omega) (by rw[a0];have:=bq.out;omega));clear ac hn hg an
   go_wp2_with fail
   refine N.mono ?_;rintro e w3 ⟨rfl,c⟩;have g:=d.trans (c.mono q);have G:=X.out _ g;have t:=Ea q c.size;clear d c q
   go_wp2_with fail
   refine(FD _ _ _ _ _ G).mono ?_;rintro e w4 ⟨rfl,u⟩;rw[A.out];have j:=g.trans (u.mono t);have a7:=a5.out _ j;obtain⟨c0,c1,c2,f0,f1,f2⟩:=EH a7
   go_wp2
   refine J7 (BF rfl _ _ B 153 _ (0,0) _ rfl (OE a7 false 0 0) L3 rfl (by kernel_rfl)) rfl ?_;exact PY (f:=2) (by rw[Y.out];exact F.out) (FM (FM (FM (X.out _ j) a) a) a) (FQ (FQ (FQ (a6.out _ j) b) b) b)
  ·have ad:n<=bs.length:=by omega
   obtain⟨v,hv⟩:=Ai (num (bs.take n));have A:=Dl (show ask s.data.toList p (n:Int)=((v:Int),0) by rw[E7 (n:=(n:Int)) (by omega) (by rw[a0];have:=bq.out;omega),Do,b9.out,hv]);by_cases T:i=102
   ·subst T;have hn2:n=22:=by rw[<-hn,Bc rfl]
    subst hn2;have A:Hid (ask s.data.toList p (22:Int)=((v:Int),0)):=Dl A.out;have Q:=T6 hg ad;rw[hv] at Q;have ao:=fun x=>qG v x;obtain⟨q0,q1,q2⟩:=XL v;obtain⟨⟨l,r,y⟩,he⟩:=Ai (EJ v);rw[he] at Q ao q0 q1 q2;have m:=fun x R=>WB l r y q0 ⟨q1,q2⟩ x R;have ax:=fun x=>RR l (r:Int) y x
    have b5:Hid (∀x,A9 prog 291 #[.int .i64 (v:Int)] x fun e w'=>e=.returned (.agg #[.bool l,.int .i64 (r:Int),.int .i64 y])/\Below x.heap.size x w'):=Dl ao;have bu:(p:Int)+22<=8*(s.size:Int):=by have:=bq.out;omega
    have bv:p<=1125899906842624:=by omega
    simp only at Q;cases hin:inT l r y.natAbs with
    |true=>
     rw[hin] at Q m;rw[Bc rfl] at m;rw[Bool.not_true,K5,Bb (by decide)] at Q;have F:=Dl Q;generalize plT l r y.natAbs=z at m;clear ac hn hg an Q ao he hv ad ax hin
     go_wp2_with fail
     refine N.mono ?_;rintro e w3 ⟨rfl,c⟩;have g:=d.trans (c.mono q);have G:=X.out _ g;have t:=Ea q c.size;clear d c q N
     go_wp2_with fail
     refine(FD _ _ _ _ _ G).mono ?_;rintro e w4 ⟨rfl,u⟩;rw[A.out];have j:=g.trans (u.mono t);have H:=Ea t u.size;clear g u G t
     go_wp2_with fail
     refine(b5.out _).mono ?_;rintro e O ⟨rfl,I⟩;have J:=j.trans (I.mono H);have ae:=Ea H I.size
     go_wp2_with fail
     have D:=J.alloc ae (.cells #[.bool l,.int .i64 (r:Int),.int .i64 y] 153 (0,0));have M:(O.alloc (.cells #[.bool l,.int .i64 (r:Int),.int .i64 y] 153 (0,0))).heap[O.heap.size]? =some (BW l r y):=heap_alloc_new O _;have S:(O.alloc (.cells #[.bool l,.int .i64 (r:Int),.int .i64 y] 153 (0,0))).heap.size=O.heap.size+1:=by simp
     obtain⟨C,hC⟩:=Ai O.heap.size;rw[hC] at M S ae;rw[hC];generalize O.alloc (.cells #[.bool l,.int .i64 (r:Int),.int .i64 y] 153 (0,0))=w6 at D M S ⊢;clear j I J H hC;have E:B+1<=w6.heap.size:=by omega
     have a8:rb≠C:=by have:=(X.out _ D).lt;have:=(X.out _ (Dm _ W)).lt;omega
     refine(m _ (bp.out _ D)).mono ?_;rintro e w7 ⟨rfl,o⟩;have K:=(o.block C (by omega)).trans M;have L:=D.trans (o.mono E);have af:=Ea E o.size;have a9:C<w7.heap.size:=(Dy.1 K).1;clear D o M E S m;have aq:=a5.out _ L;obtain⟨c0,c1,c2,f0,f1,f2⟩:=EH aq
     go_wp2
     refine J7 (BF rfl _ _ B 153 _ (0,0) _ rfl (OE aq false 0 0) L3 rfl (by kernel_rfl)) rfl ?_;exact PY (f:=7) (by rw[Y.out];exact F.out) (FM (FM (FM (X.out _ L) a) a) a) (FQ (FQ (FQ (a6.out _ L) b) b) b)
    |false=>
     rw[hin] at Q m;rw[Bb (by decide)] at m;rw[Kh,L9] at Q;have br:=Dl Q;clear ac hn hg an Q ao he hv ad hin
     go_wp2_with fail
     refine N.mono ?_;rintro e w3 ⟨rfl,c⟩;have g:=d.trans (c.mono q);have G:=X.out _ g;have t:=Ea q c.size;clear d c q N
     go_wp2_with fail
     refine(FD _ _ _ _ _ G).mono ?_;rintro e w4 ⟨rfl,u⟩;rw[A.out];have j:=g.trans (u.mono t);have H:=Ea t u.size;clear g u G t
     go_wp2_with fail
     refine(b5.out _).mono ?_;rintro e O ⟨rfl,I⟩;have J:=j.trans (I.mono H);have ae:=Ea H I.size
     go_wp2_with fail
     have D:=J.alloc ae (.cells #[.bool l,.int .i64 (r:Int),.int .i64 y] 153 (0,0));have M:(O.alloc (.cells #[.bool l,.int .i64 (r:Int),.int .i64 y] 153 (0,0))).heap[O.heap.size]? =some (BW l r y):=heap_alloc_new O _;have S:(O.alloc (.cells #[.bool l,.int .i64 (r:Int),.int .i64 y] 153 (0,0))).heap.size=O.heap.size+1:=by simp
     obtain⟨C,hC⟩:=Ai O.heap.size;rw[hC] at M S ae;rw[hC];generalize O.alloc (.cells #[.bool l,.int .i64 (r:Int),.int .i64 y] 153 (0,0))=w6 at D M S ⊢;clear j I J H hC;have E:B+1<=w6.heap.size:=by omega
     have a8:rb≠C:=by have:=(X.out _ D).lt;have:=(X.out _ (Dm _ W)).lt;omega
     refine(m _ (bp.out _ D)).mono ?_;rintro e w7 ⟨rfl,o⟩;have K:=(o.block C (by omega)).trans M;have L:=D.trans (o.mono E);have af:=Ea E o.size;have a9:C<w7.heap.size:=(Dy.1 K).1;clear D o M E S m;obtain⟨d0,d1,d2,k0,k1,k2⟩:=EH K
     go_wp2_with fail
     refine(ax _).mono ?_;rintro e U ⟨rfl,ag⟩;have V:=(ag.block C a9).trans K;have ah:=L.trans (ag.mono af);have P:=a5.out _ ah;have ai:=X.out _ ah;have aj:=a6.out _ ah;clear d0 d1 d2 k0 k1 k2 L ag af K ax;obtain⟨c0,c1,c2,f0,f1,f2⟩:=EH P;cases hrt:DY (r:Int) y with
     |false=>
      have F:=br.out;rw[hrt,Bb (by decide)] at F;have F:=Dl F;clear br
      go_wp2
      refine J7 (BF rfl _ _ B 153 _ (0,0) _ rfl (OE P false 0 0) L3 rfl (by kernel_rfl)) rfl ?_;exact PY (f:=7) (by rw[Y.out];exact F.out) (FM (FM (FM ai a) a) a) (FQ (FQ (FQ aj b) b) b)
     |true=>
      have F:=br.out;rw[hrt,Bc rfl] at F;have F:=Dl F;obtain⟨d0,d1,d2,_,_,_⟩:=EH V;have ap:B<U.heap.size:=(Dy.1 P).1;have ba:C<U.heap.size:=(Dy.1 V).1;clear br
      go_wp2_with fail
      have b6:AG U.drew rb s p:=ai;have bb:w.grownBy U.drew (some rb):=AO aj (JX U _);have cc:U.drew.cell? ⟨C,0,none⟩=some (.bool l):=d0;have cd:U.drew.cell? ⟨C,1,none⟩=some (.int .i64 (r:Int)):=d1;have ce:U.drew.cell? ⟨C,2,none⟩=some (.int .i64 y):=d2;have bc:U.drew.heap[B]? =some (BW false 0 0):=P;have bd:U.drew.heap[C]? =some (BW l r y):=V
      have bf:B<U.drew.heap.size:=ap;have bg:C<U.drew.heap.size:=ba;have cf:IntKind.i64.wrap ((p:Int)+22)=(p:Int)+22:=Kx _ (by omega);have k0:(0:Int)<=(p:Int)+22:=by omega
      have kn:((p:Int)+22).toNat=p+22:=by omega
      have bw:=Dl (fun(x:A5) (R:U.drew.grownBy x (some rb))=>((R.block B bf (by simpa using Ne.symm a)).trans bc:x.heap[B]? =some (BW false 0 0)));have bx:=Dl (fun(x:A5) (R:U.drew.grownBy x (some rb))=>((R.block C bg (by simpa using Ne.symm a8)).trans bd:x.heap[C]? =some (BW l r y)));clear c0 c1 c2 f0 f1 f2 d0 d1 d2 ap ba P V ai aj bc bd
      go_region_with (first
       |(go_at_call 28;refine(E1 _ _ _ _ (by assumption)).mono ?_;rintro e w9 ⟨rfl,rfl⟩)
       |(go_at_call 91;refine(GA _ _ _ _ _ (by assumption) (by omega) (by omega)).mono ?_;rintro e w9 ⟨rfl,ar,ak⟩;have au:=bw.out _ ak;obtain⟨c0,c1,c2,f0,f1,f2⟩:=EH au;obtain⟨b0,b1,b2,_,_,_⟩:=EH (bx.out _ ak)))
      all_goals
       rw[kn] at ar;have bh:=AO bb ak
       go_wp2
       refine J7 (BF rfl _ _ B 153 _ (0,0) _ rfl (OE au l r y) L3 rfl (by kernel_rfl)) rfl ?_;exact R9 (by rw[Y.out];exact F.out) (FM (FM (FM ar a) a) a) (FQ (FQ (FQ bh b) b) b)
   ·have ay:AS i+1=n:=by rw[<-hn,Bb T]
    have Q:=Sz hg T (by rw[ay];exact ad);rw[ay,hv] at Q;have az:=fun x R=>qR i v (by omega) x R;obtain⟨⟨l,r,y⟩,he⟩:=Ai (NA (evT i) (v%2==1));rw[he] at Q az;have F:=Dl Q;have cg:Hid (∀x,BD x->A9 prog 290 #[.int .i64 (i:Int),.int .i64 (v:Int)] x fun e w'=>e=.returned (.agg #[.bool l,.int .i64 (r:Int),.int .i64 y])/\Below x.heap.size x w'):=Dl az
    have g0:((i:Int) != 102)=true:=by simp;omega
    have bu:(p:Int)+n<=8*(s.size:Int):=by have:=bq.out;omega
    have bv:p<=1125899906842624:=by omega
    clear ac hn hg an Q az he hv ay T ad
    go_wp2_with fail
    refine N.mono ?_;rintro e w3 ⟨rfl,c⟩;have g:=d.trans (c.mono q);have G:=X.out _ g;have t:=Ea q c.size;clear d c q N
    go_wp2_with fail
    refine(FD _ _ _ _ _ G).mono ?_;rintro e w4 ⟨rfl,u⟩;rw[A.out];have j:=g.trans (u.mono t);clear g u G t;have H:=Ea (by omega:B+1<=W.heap.size) j.size
    go_wp2_with fail
    refine(cg.out _ (bp.out _ j)).mono ?_;rintro e O ⟨rfl,I⟩;have J:=j.trans (I.mono H);have bi:=X.out _ J;have bj:=a5.out _ J;have bz:=a6.out _ J;have ap:B<O.heap.size:=(Dy.1 bj).1;clear j I H J
    go_wp2_with fail
    refine(E1 _ _ _ _ bi).mono ?_;rintro e w6 ⟨rfl,rfl⟩
    go_wp2_with fail
    refine(GA _ _ _ _ _ bi (by omega) (by omega)).mono ?_;rintro e w6 ⟨rfl,bk,bl⟩;rw[show ((p:Int)+n).toNat=p+n by omega] at bk;have bm:w6.heap[B]? =some (BW false 0 0):=(bl.block B ap (by simpa using Ne.symm a)).trans bj;have bn:=AO bz bl;obtain⟨c0,c1,c2,f0,f1,f2⟩:=EH bm
    go_wp2
    refine J7 (BF rfl _ _ B 153 _ (0,0) _ rfl (OE bm l r y) L3 rfl (by kernel_rfl)) rfl ?_;exact R9 (by rw[Y.out];exact F.out) (FM (FM (FM bk a) a) a) (FQ (FQ (FQ bn b) b) b)
 ·have F:=Dl (UF hg hf);have bo:=a5.out _ d;obtain⟨c0,c1,c2,f0,f1,f2⟩:=EH bo;have g0:(f != 0)=true:=by simpa using hf
  clear hf hg
  go_wp2
  refine J7 (BF rfl _ _ B 153 _ (0,0) _ rfl (OE bo false 0 0) L3 rfl (by kernel_rfl)) rfl ?_;exact PY (by rw[Y.out];exact F.out) (FM (FM (FM (X.out _ d) a) a) a) (FQ (FQ (FQ (a6.out _ d) b) b) b)
theorem BD.grown {w c:A5}{rb p:Nat}{s:ByteArray}(h:BD w)(hr:AG w rb s p)(a:w.grownBy c (some rb)):BD c:=by
 have far:∀b,(∀k x,w.cell? ⟨b,0,none⟩=some (.int k x)->b≠rb):=fun b k x hc e=>by
  subst e;rw[hr.cells.1] at hc;cases hc
 have d:=far _ _ _ (h.1 0 (by decide)).1;have f:=far _ _ _ (h.1 0 (by decide)).2;have g:=far _ _ _ (h.2 0 (by decide));exact⟨fun i hi=>⟨(a.cell_far ⟨5,i,none⟩ h.lt.1 (by simpa using d)).trans (h.1 i hi).1,(a.cell_far ⟨6,i,none⟩ h.lt.2.1 (by simpa using f)).trans (h.1 i hi).2⟩,
  fun i hi=>(a.cell_far ⟨7,i,none⟩ h.lt.2.2 (by simpa using g)).trans (h.2 i hi)⟩
theorem AG.under {w a:A5}{B rb p:Nat}{s:ByteArray}(h:AG w rb s p)(b:Below B w a)(c:rb<B):AG a rb s p:=⟨by rw[b.block rb c];exact h.1,h.2⟩
def Su (s:ByteArray)(rb p:Nat)(i:Bool)(w:A5)(e:Ae)(a:A5):Prop:=
 ∃(d f:Int) (n q:Nat),dcT ((AA s.data.toList).drop p) i=(d,f,n)/\e=.returned (.tuple #[.int .i64 d,.int .i64 f])/\AG a rb s q/\(f=0->q=p+n)/\w.grownBy a (some rb)
theorem NR {s:ByteArray}{rb p q n:Nat}{i:Bool}{w a:A5}{d f:Int}(h:dcT ((AA s.data.toList).drop p) i=(d,f,n))(hr:AG a rb s q)(b:f=0->q=p+n)(c:w.grownBy a (some rb)):
  Su s rb p i w (.returned (.tuple #[.int .i64 d,.int .i64 f])) a:=⟨d,f,n,q,h,rfl,hr,b,c⟩
theorem dS (w:A5)(rb:Nat)(s:ByteArray)(p:Nat)(i:Bool)(hr:AG w rb s p):
  A9 prog 255 #[.pointer (some ⟨rb,0,none⟩),.bool i] w (Su s rb p i w):=by
 have m:w.grownBy w (some rb):=BR (Dm _ w) _;cases i with
 |false=>
  go_enter func255,Lb
  go_wp2
  go_ret2
  exact NR rfl hr (fun _=>rfl) m
 |true=>
  have q:s.data.toList.length=s.size:=rfl;have z:=hr.2.1;have r:((AA s.data.toList).drop p).length=8*s.size-p:=by rw[Bj,BB];rfl
  have g:=IL w rb s p 8 hr;by_cases y:8*s.size<p+8
  ·have A:=FG (l:=s.data.toList) (p:=p) (n:=8) (by decide) (by rw[q];omega);have F:=Dl (U8 (b:=(AA s.data.toList).drop p) (by omega));have Q:C1 s.data.toList p 8=p:=by unfold C1;rw[A];rfl
   rw[A,Q] at g;clear m hr r y A Q
   go_enter func255,Lb
   go_wp2_with fail
   refine g.mono ?_;rintro e u ⟨rfl,a,c⟩
   go_wp2
   go_ret2
   exact NR F.out a (fun h=>by cases h) c
  ·have A:=E7 (l:=s.data.toList) (p:=p) (n:=8) (by decide) (by rw[q];omega);have Q:C1 s.data.toList p 8=p+8:=by unfold C1;rw[A];rfl
   obtain⟨v,hv⟩:=Ai (num (((AA s.data.toList).drop p).take 8));have o:AD s.data.toList p (8:Int).toNat=v:=hv;have B:v<256:=by rw[<-o];exact EA _ _ 8
   rw[A,Q,o] at g;have d:8<=((AA s.data.toList).drop p).length:=by omega
   clear m hr r y A Q o;by_cases f:v=255
   ·subst f;have F:=Dl (RH d hv);clear hv d
    go_enter func255,Lb
    go_wp2_with fail
    refine g.mono ?_;rintro e u ⟨rfl,a,c⟩
    go_wp2
    go_ret2
    exact NR F.out a (fun _=>rfl) c
   have k:((v:Int)==255)=false:=by rw[Ez];omega
   by_cases j:v=128
   ·subst j;have F:=Dl (TB d (.inr hv));clear hv d k f
    go_enter func255,Lb
    go_wp2_with fail
    refine g.mono ?_;rintro e u ⟨rfl,a,c⟩
    go_wp2
    go_ret2
    exact NR F.out a (fun h=>by cases h) c
   have t:((v:Int)==128)=false:=by rw[Ez];omega
   by_cases x:v=0
   ·subst x;have F:=Dl (TB d (.inl hv));clear hv d k f t j
    go_enter func255,Lb
    go_wp2_with fail
    refine g.mono ?_;rintro e u ⟨rfl,a,c⟩
    go_wp2
    go_ret2
    exact NR F.out a (fun h=>by cases h) c
   have t0:decide ((v:Int)<1)=false:=by simp;omega
   have F:=Dl (SR d hv x j f);clear hv d f j x
   go_enter func255,Lb
   go_wp2_with fail
   refine g.mono ?_;rintro e u ⟨rfl,a,c⟩
   go_wp2
   go_ret2
   exact NR F.out a (fun _=>rfl) c
def T2 (s:ByteArray)(rb p a:Nat)(w:A5)(e:Ae)(b:A5):Prop:=
 ∃(L:List Ev) (f:Int) (n t:Nat) (q:Option Aa) (c:Nat),CN (AA s.data.toList) (65-a) [] p a=(L,f,n)/\e=.returned (.tuple #[.slice q L.length c,.int .i64 f])/\CE b q L/\E3 w.heap.size q/\AG b rb s t/\(f=0->t=n)/\w.grownBy b (some rb)
theorem Rg {s:ByteArray}{rb p a n t c m:Nat}{w b:A5}{L:List Ev}{f:Int}{q:Option Aa}(h:CN (AA s.data.toList) (65-a) [] p a=(L,f,n))(hm:L.length=m)(e:CE b q L)(d:E3 w.heap.size q)(hr:AG b rb s t)(ht:f=0->t=n)(g:w.grownBy b (some rb)):
  T2 s rb p a w (.returned (.tuple #[.slice q m c,.int .i64 f])) b:=⟨L,f,n,t,q,c,h,by rw[hm],e,d,hr,ht,g⟩
set_option maxRecDepth 100000 in
theorem dB (w:A5)(rb:Nat)(s:ByteArray)(p a:Nat)(ha:a<=1)(hp:BD w)(hr:AG w rb s p):
  A9 prog 256 #[.pointer (some ⟨rb,0,none⟩),.int .i64 (a:Int)] w (T2 s rb p a w):=by
 obtain⟨i1,hj,H,I,J⟩:=Dr yW;obtain⟨B,hB⟩:=Ai w.heap.size;have ap:rb<B:=by rw[<-hB];exact hr.lt
 have ab:w.grownBy w (some rb):=BR (Dm _ w) _;have a3:=Dl hB;have ac:B<=w.heap.size:=by omega
 have LT:=Dl (show 5<B/\6<B/\7<B by rw[<-hB];exact hp.lt);have aq:w.heap.size<=B:=by omega
 obtain⟨S,hS⟩:=Ai (AA s.data.toList);have ar:=Dl hS;have a4:S.length=8*s.size:=by rw[<-hS,BB];rfl
 have y:=fun x t K hy=>xV x rb s t K hy;unfold P2 at y;rw[hS] at y;have au:=Dl y;clear hB hS y
 go_enter func256,ntmps256
 go_wp2
 go_step3
 go_wp2
 go_step3
 go_wp2
 go_loopw [1,6] (fun u v wr=>∃(acc:List Ev) (m t:Nat),u=.int .i64 m/\m<=64/\acc.length<=m/\wr.ownsRow B 153 3 v acc.length (IA acc)/\EvR S a p acc m t/\AG wr rb s t/\w.grownBy wr (some rb)/\B<=wr.heap.size/\BD wr) (fun u _ _=>65-(RowKit.intOf u).toNat)
 case atStart=>exact⟨[],a,p,rfl,by omega,Dn _,Dj _ _ _ _,EvR.first _ _ _,hr,ab,ac,hp⟩
 case round=>
  clear hr ab ac hp;obtain⟨acc,m,t,rfl,hm,av,z,ad,hr,hg,hz,hT⟩:=hrel;obtain⟨⟨l,r,v⟩,f,n,c⟩:∃x f n,etk (S.drop t)=(x,f,n):=⟨_,_,_,rfl⟩;obtain⟨a2,aw⟩:=bP c;have L:=au.out _ t hT hr;rw[c] at L;simp only[OB] at L;obtain⟨al,E⟩:=Ai acc.length;have ax:=Dl E;rw[E] at z av;have A:=Dl c;have ST:=Dl ad
  have ae:=Dl (fun(x:A5) (K:wr.grownBy x (some rb))=>(⟨AO hg K,Ea hz K.size,hT.grown hr K,z.kept K (.inr fun e=>by have:=(z.lt _ e).1;omega)⟩:w.grownBy x (some rb)/\B<=x.heap.size/\BD x/\x.ownsRow B 153 3 u6 al (IA acc)));clear c aw hg hT z ad E hr
  go_wp2_with fail
  refine L.mono ?_;rintro e w1 ⟨rfl,af,ag⟩;obtain⟨ah,ai,aj,d⟩:=ae.out _ ag;clear ag L ae;obtain⟨X,hX⟩:=Ai w1.heap.size;obtain⟨wx,C⟩:=Ai (w1.alloc (.cells #[.bool l,.int .i64 (r:Int),.int .i64 v] 153 (0,0)));have M:wx.heap.size=X+1:=by rw[<-C,<-hX];simp
  have W:wx.heap[X]? =some (BW l (r:Int) v):=by rw[<-C,<-hX];exact heap_alloc_new w1 _
  have ak:Below B w1 wx:=by rw[<-C];exact(Dm _ _).alloc ai _
  have O:wx.ownsRow B 153 3 u6 al (IA acc):=by rw[<-C];exact d.alloc _
  have Y:∀q,Value.ownBlock u6=some q->B<=q/\q<X:=fun q hq=>by have:=d.lt q hq;omega
  have ao:=Dl hX;have P:=Dl C;have am:=Dl (show B<=X by omega);have Q:=Dl (fun(x:A5) (o:Obj) (K:(wx.alloc o).grownBy x (Value.ownBlock u6))=>(by
   have hb:Below B w1 x:=(ak.alloc (by have:=am.out;omega) o).grown K (by simp;have:=am.out;omega) (fun q hq=>(Y q hq).1);have ay:x.heap[X]? =some (BW l (r:Int) v):=by
    rw[K.block X (by simp;omega) (fun e=>by have:=(Y X e.symm).2;omega)];exact CH W
   exact⟨tU ah hb aq,Ea ai hb.size,aj.under hb LT.out,af.under hb ap,ay⟩:w.grownBy x (some rb)/\B<=x.heap.size/\BD x/\AG x rb s (t+n)/\x.heap[X]? =some (BW l (r:Int) v)))
  obtain⟨c0,c1,c2,_,_,_⟩:=EH W;have a5:B<=wx.heap.size:=by omega
  clear hX C ak W Y ah aj af d;by_cases Z:f=0
  ·have g0:(f != 0)=false:=by simpa using Z
   have c:=A.out;rw[Z] at c;have A:=Dl c;clear Z c;by_cases R:63<m+r
   ·have t3:decide (63<(m:Int)+(r:Int))=true:=by simp;omega
    have F:=Dl (ST.out.far hm A.out R);clear R
    go_wp2_with (at_builtin;rw[P.out,ao.out,<-M];refine Ql (y0:=l) (y1:=(r:Int)) (y2:=v) rfl rfl L7 hj H rfl I J rfl (O.alloc _) rfl ?d1 ?d2 ?d3 ?d4 ?d5 ?_;(case d1=>go_cell);(case d2=>go_cell);(case d3=>go_cell);(case d4=>omega);(case d5=>(simp;omega));intro v2 w2 D b g;clear g;obtain⟨i,T,U,j,k⟩:=Q.out _ _ b;obtain⟨e0,e1,e2,_,_,_⟩:=EH k;clear b)
    rw[L4]
    go_ret2
    exact Rg (by rw[ar.out];exact F.out) rfl (.inl rfl) (E3.none _) j (fun h=>by cases h) i
   ·have t3:decide (63<(m:Int)+(r:Int))=false:=by simp;omega
    cases l with
    |true=>
     have F:=Dl (ST.out.end hm A.out (by omega));have V:(acc++[(true,(r:Int),v)]).length=al+1:=by rw[B9,ax.out];rfl
     have G:=Dl V;have az:=Dl (X2 acc (true,(r:Int),v));clear R V
     go_wp2_with (at_builtin;rw[P.out,ao.out,<-M];refine Ql (y0:=true) (y1:=(r:Int)) (y2:=v) rfl rfl L7 hj H rfl I J rfl (O.alloc _) rfl ?d1 ?d2 ?d3 ?d4 ?d5 ?_;(case d1=>go_cell);(case d2=>go_cell);(case d3=>go_cell);(case d4=>omega);(case d5=>(simp;omega));intro v2 w2 D b g;clear g;obtain⟨i,T,U,j,k⟩:=Q.out _ _ b;obtain⟨e0,e1,e2,_,_,_⟩:=EH k;clear b)
     rw[L4];have aa:w2.ownsRow B 153 3 v2 (acc++[(true,(r:Int),v)]).length (IA (acc++[(true,(r:Int),v)])):=by rw[G.out,az.out];exact D
     obtain⟨q,cap,rfl,an⟩:=tE aa;have a0:=Dl an;have a1:=Dl (bI aa);rw[G.out];clear D aa an
     go_ret2
     exact Rg (by rw[ar.out];exact F.out) G.out a0.out (by rw[a3.out];exact a1.out) j (fun _=>rfl) i
    |false=>
     have N:=Dl (ST.out.on hm A.out (by omega));have a6:m+r<=63:=by omega
     clear R
     go_wp2_with (at_builtin;rw[P.out,ao.out,<-M];refine Ql (y0:=false) (y1:=(r:Int)) (y2:=v) rfl rfl L7 hj H rfl I J rfl (O.alloc _) rfl ?d1 ?d2 ?d3 ?d4 ?d5 ?_;(case d1=>go_cell);(case d2=>go_cell);(case d3=>go_cell);(case d4=>omega);(case d5=>(simp;omega));intro v2 w2 D b g;clear g;obtain⟨i,T,U,j,k⟩:=Q.out _ _ b;obtain⟨e0,e1,e2,_,_,_⟩:=EH k;clear b)
     go_roundw
     case rel=>exact⟨acc++[(false,(r:Int),v)],m+r+1,t+n,by go_num,by omega,by rw[B9,ax.out];simp;omega,by rw[B9,X2,ax.out];exact D,N.out,j,i,T,U⟩
     case measure=>simp[RowKit.intOf];omega
  ·have g0:(f != 0)=true:=by simpa using Z
   have F:=Dl (ST.out.err hm A.out Z);have a7:=Dl Z;clear Z
   go_wp2_with (at_builtin;rw[P.out,ao.out,<-M];refine Ql (y0:=l) (y1:=(r:Int)) (y2:=v) rfl rfl L7 hj H rfl I J rfl (O.alloc _) rfl ?d1 ?d2 ?d3 ?d4 ?d5 ?_;(case d1=>go_cell);(case d2=>go_cell);(case d3=>go_cell);(case d4=>omega);(case d5=>(simp;omega));intro v2 w2 D b g;clear g;obtain⟨i,T,U,j,k⟩:=Q.out _ _ b;obtain⟨e0,e1,e2,_,_,_⟩:=EH k;clear b)
   rw[L4]
   go_ret2
   exact Rg (by rw[ar.out];exact F.out) rfl (.inl rfl) (E3.none _) j (fun h=>absurd h a7.out) i
def R4 (s:ByteArray)(rb p:Nat)(i c:Bool)(w:A5)(e:Ae)(a:A5):Prop:=
 ∃(d:Int) (L:List Ev) (f:Int) (t m:Nat) (q:Option Aa) (cap:Nat),e=.returned (.tuple #[.int .i64 d,.slice q m cap,.int .i64 f])/\L.length=m/\CE a q L/\E3 w.heap.size q/\AG a rb s t/\w.grownBy a (some rb)/\(f=0->btk (AA s.data.toList) p i c=(d,L,t,0))/\(f≠0->btk (AA s.data.toList) p i c=(0,[],p,f))
theorem aK (w:A5)(rb:Nat)(s:ByteArray)(p:Nat)(i c:Bool)(M:BD w)(hr:AG w rb s p):
  A9 prog 241 #[.pointer (some ⟨rb,0,none⟩),.bool i,.bool c] w (R4 s rb p i c w):=by
 have l:=dS w rb s p i hr;have r:=fun x=>S3 i x;have N:AZ i<=1:=by cases i <;> decide
 have b:=fun x p B R=>dB x rb s p (AZ i) N B R;obtain⟨S,t⟩:=Ai (AA s.data.toList);have ab:=Dl t;have T:=Dl (fun(x:A5) (B:w.grownBy x (some rb))=>(M.grown hr B:BD x));unfold R4;rw[t];unfold Su at l;rw[t] at l;unfold T2 at b;rw[t] at b
 have O:=Dl (fun(d:Int) (n:Nat) (L:List Ev) (f:Int) (e:Nat) (h:dcT (S.drop p) i=(d,0,n)) (P:CN S (65-AZ i) [] (p+n) (AZ i)=(L,f,e))=>(⟨fun g=>YR h P g,fun g=>T9 h (by rw[P,g])⟩:(f≠0->btk S p i true=(0,[],p,f))/\(f=0->btk S p i true=(d,L,e,0))));generalize AZ i=a at r b O N;have U:=Dl b;clear M hr t b
 go_enter func241,ntmps241
 go_wp2_with fail
 refine l.mono ?_;rintro e w1 ⟨d,f,n,q,j,rfl,o,A,k⟩;have C:=T.out _ k;have u:=Dl j;have V:=Dl A;clear j A l;by_cases g:f=0
 ·have W:(f != 0)=false:=by simpa using g
  have A:=V.out g;have j:=u.out;rw[g] at j;subst A;have u:=Dl j;have D:=Dl g;clear j g;cases c with
  |false=>
   have F:=Dl (RD u.out)
   go_wp2
   go_ret3
   exact⟨d,[],f,p+n,0,none,0,rfl,rfl,.inl rfl,E3.none _,o,k,fun _=>F.out,fun h=>absurd D.out h⟩
  |true=>
   go_wp2_with fail
   refine(r _).mono ?_;rintro e X ⟨rfl,rfl⟩
   go_wp2_with fail
   refine(U.out _ _ C o).mono ?_;rintro e X ⟨L,f2,Y,t2,Z,c2,v,rfl,b,y,E,z,G⟩;have Q:=Dl (O.out d n L f2 Y u.out v);have H:=Dl z;have I:=Dl b;have J:=Dl (y.mono k.size);have K:=AO k G;clear v z b y;obtain⟨m,hm⟩:=Ai L.length;have aa:=Dl hm;rw[hm];clear hm
   go_wp2
   go_ret3
   exact⟨d,L,f2,t2,m,Z,c2,rfl,aa.out,I.out,J.out,E,K,fun h=>by rw[H.out h];exact Q.out.2 h,Q.out.1⟩
 ·have W:(f != 0)=true:=by simpa using g
  have F:=Dl (XO (c:=c) u.out g);have D:=Dl g;clear g
  go_wp2
  go_ret3
  exact⟨d,[],f,q,0,none,0,rfl,rfl,.inl rfl,E3.none _,o,k,fun h=>absurd h D.out,fun _=>F.out⟩
def Sa (s:ByteArray)(rb p:Nat)(i c:Bool)(w:A5)(e:Ae)(a:A5):Prop:=
 ∃(d:Int) (L:List Ev) (f:Int) (t m:Nat) (q:Option Aa) (cap:Nat),btk (AA s.data.toList) p i c=(d,L,t,f)/\e=.returned (.tuple #[.int .i64 d,.slice q m cap,.int .i64 f])/\L.length=m/\CE a q L/\AG a rb s t/\w.grownBy a (some rb)/\E3 w.heap.size q
theorem eK (w:A5)(rb:Nat)(s:ByteArray)(p:Nat)(i c:Bool)(z:BD w)(hr:AG w rb s p):
  A9 prog 230 #[.pointer (some ⟨rb,0,none⟩),.bool i,.bool c] w (Sa s rb p i c w):=by
 have a:=aK w rb s p i c z hr;have A:=hr.2.1;have b:=E1 w rb s p hr;unfold R4 at a;unfold Sa;generalize B:AA s.data.toList=S at a ⊢;clear B z hr
 go_enter func230,ntmps230
 go_wp2_with fail
 refine b.mono ?_;rintro e C ⟨rfl,rfl⟩
 go_wp2_with fail
 refine a.mono ?_;rintro e C ⟨d,L,f,t,m,q,cap,rfl,hm,g,h,n,o,j,k⟩;have D:=Dl hm;have u:=Dl g;have v:=Dl h;by_cases l:f=0
 ·have E:(f != 0)=false:=by simpa using l
  have F:=Dl (j l);clear l j k hm g b a h
  go_wp2
  go_ret3
  exact⟨d,L,0,t,m,q,cap,F.out,rfl,D.out,u.out,n,o,v.out⟩
 ·have E:(f != 0)=true:=by simpa using l
  have F:=Dl (k l);clear l j k hm g b a h
  go_wp2_with fail
  refine(GA _ _ _ _ (p:Int) n (by omega) (by omega)).mono ?_;rintro e G ⟨rfl,r,x⟩;rw[Do] at r;have y:=AO o x
  go_wp2
  go_ret3
  exact⟨0,[],f,p,0,none,0,F.out,rfl,rfl,.inl rfl,r,y,E3.none _⟩
theorem Wn (k:Int)(w:A5):A9 prog 52 #[.int .i64 k] w fun e a=>e=.returned (.bool (AE k))/\w=a:=by
 cases h3:(k==3) with
 |true=>
  go_enter func52,ntmps52
  go_wp2
  go_ret
  exact⟨AB (by simp[AE,h3]),rfl⟩
 |false=>
  cases h4:(k==4) with
  |true=>
   go_enter func52,ntmps52
   go_wp2
   go_ret
   exact⟨AB (by simp[AE,h3,h4]),rfl⟩
  |false=>
   go_enter func52,ntmps52
   go_wp2
   go_ret
   exact⟨AB (by simp[AE,h3,h4]),rfl⟩
end
section
open Go.RowKit Go.Lib Go.ChangeShapes Go.WideShapes Go.ChangeAt
theorem SN:(Rows.laid_overspill_tcoef_codes:Ab Unit)=tabData .u16 (RU.map fun z:Nat=>(z:Int))/\(Rows.laid_overspill_tcoef_lengths:Ab Unit)=tabData .u8 (Rt.map fun z:Nat=>(z:Int))/\(Rows.laid_overspill_tcoef_ahead:Ab Unit)=tabData .u8 (Re.map fun z:Nat=>(z:Int)):=⟨by kernel_rfl,by kernel_rfl,by kernel_rfl⟩
theorem Yc (l:List Nat)(i:Nat)(h:i<(l.map fun z:Nat=>(z:Int)).length):(l.map fun z:Nat=>(z:Int))[i]=((l[i]?.getD 0:Nat):Int):=by
 have h2:i<l.length:=by simpa using h
 rw[Gl,Fe h2]
 rfl
theorem Rv {P:Program}{W:A5}{a:List (String×Ab Unit)}{o:List MemPlace}{b:String}{k:IntKind}{zs:List Int}{g:Nat}{t e:TypeId}{n:Nat}(hv:DataW.LaidVars P W a o)(hm:(b,(tabData k zs:Ab Unit))∈a)
  (l:P.globalNamed b=some g)(ht:(P.globals[g]?).map (·.type)=some t)(q:P.underlying t=some (.array n e))(r:P.underlying e=some (.int k))(d:P.cellsOf e=1)(f:P.cellsOf t=n)(i:Nat)(hi:i<zs.length):
  W.cell? ⟨g,i,none⟩=some (.int k zs[i]):=by
 obtain⟨s,u,cs,m,p,h,j,hc,hd⟩:=Pc hv hm;obtain rfl:=Fg (l.symm.trans h);obtain rfl:=Fg (ht.symm.trans j);have h1:=cells_of_tab q r d f hd;have c:=Ip l hc i;rw[c,<-In,h1,Io,Fe hi]
 rfl
theorem rT {laid : List (String × DataW Unit)} {W : World} (hL : laidMetH prog laid W) (hm : (("overspill/tcoef.codes", Rows.laid_overspill_tcoef_codes) ∈ laid ∧ ("overspill/tcoef.lengths", Rows.laid_overspill_tcoef_lengths) ∈ laid ∧ ("overspill/tcoef.ahead", Rows.laid_overspill_tcoef_ahead) ∈ laid) ∧ (laid.all fun x => x.2.handleName?.isNone) = true) : BD W := by
 rw[Jh _ _ _ hm.2] at hL;obtain⟨ps,hv,_,_⟩:=hL;obtain⟨h1,h2,h3⟩:=hm.1;rw[SN.1] at h1;rw[SN.2.1] at h2;rw[SN.2.2] at h3;have hlc:(RU.map fun z:Nat=>(z:Int)).length=103:=rfl;have hll:(Rt.map fun z:Nat=>(z:Int)).length=103:=rfl;have hla:(Re.map fun z:Nat=>(z:Int)).length=11:=rfl;refine⟨fun i hi=>?_,fun i hi=>?_⟩
 ·have g1:=Rv hv h1 (g:=5) (t:=267) (by kernel_rfl) (by kernel_rfl) underlying267 underlying266 (by kernel_rfl) (by kernel_rfl) i (by rw[hlc];exact hi);have g2:=Rv hv h2 (g:=6) (t:=268) (by kernel_rfl) (by kernel_rfl) underlying268 Du (by kernel_rfl) (by kernel_rfl) i (by rw[hll];exact hi);rw[Yc] at g1 g2;exact⟨g1,g2⟩
 ·have g3:=Rv hv h3 (g:=7) (t:=296) (by kernel_rfl) (by kernel_rfl) underlying296 Du (by kernel_rfl) (by kernel_rfl) i (by rw[hla];exact hi);rw[Yc] at g3;exact g3
theorem ZU {laid:List (String×Ab Unit)}{W:A5}(hL:laidMetH prog laid W)
  (hm : (("overspill/cbpy.rows", Rows.laid_overspill_cbpy_rows) ∈ laid ∧ (("overspill/mvd.codes", Rows.laid_overspill_mvd_codes) ∈ laid ∧ ("overspill/mvd.lengths", Rows.laid_overspill_mvd_lengths) ∈ laid) ∧ ("overspill/steps.codes", Rows.laid_overspill_steps_codes) ∈ laid ∧
   (("overspill/tcoef.codes", Rows.laid_overspill_tcoef_codes) ∈ laid ∧ ("overspill/tcoef.lengths", Rows.laid_overspill_tcoef_lengths) ∈ laid ∧ ("overspill/tcoef.ahead", Rows.laid_overspill_tcoef_ahead) ∈ laid)) ∧ (laid.all fun x => x.2.handleName?.isNone) = true) : Ybq W.heap.size W :=
 Ybq.here (dE hL ⟨hm.1.1,hm.2⟩) (vX hL ⟨hm.1.2.1,hm.2⟩) (pU hL ⟨hm.1.2.2.1,hm.2⟩) (rT hL ⟨hm.1.2.2.2,hm.2⟩)
end
end Go.Proofs.YtjjmalchelniiaaGreatDoor
