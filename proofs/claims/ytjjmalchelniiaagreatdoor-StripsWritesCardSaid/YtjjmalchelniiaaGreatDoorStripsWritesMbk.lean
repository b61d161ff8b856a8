/- StripsWrites, 37. No condition. -/
import Derived.Test.YtjjmalchelniiaaGreatDoorStripsWritesMi
import Derived.Test.YtjjmalchelniiaaGreatDoorStripsWritesMj
import Derived.Test.YtjjmalchelniiaaGreatDoorStripsWritesMw
open Go.Proofs.Tryz
open Go renaming World->A5,Calls->A9,Value->A0
namespace Go.Proofs.YtjjmalchelniiaaGreatDoor
open Go.RowKit Go.Lib
abbrev N0:=@underlying77
abbrev N3:=@Bool.eq_false_or_eq_true
theorem VN (a b:Int)(w:A5):A9 prog 148 #[.agg #[.int .i64 a,.int .i64 b]] w fun e c=>e=.returned (.bool (a==0&&b==0))/\Below w.heap.size w c:=by
 have d:=aE a b 0 0
 go_enter func148,ntmps148
 go_wp2
 go_ret
 exact⟨rfl,(Dq _ w).alloc (Ba _) _⟩
theorem Ql (c:Cel)(sl:Nat->A0):(prog.info? 77).map (·.size)=some (AJ c sl).toArray.size:=by kernel_rfl
theorem JL (c:Cel)(sl:Nat->A0):∃A:Array A0,(AJ c sl).toArray=A/\A[0]? =some (.int .i64 c.stuff)/\A[1]? =some (.bool c.skip)/\A[2]? =some (.int .i64 c.kind)/\A[3]? =some (.int .i64 c.step)/\A[4]? =some (.int .i64 c.mx)/\A[5]? =some (.int .i64 c.my)/\
  (A[6]? =some (.int .i64 (c.dc 0))/\A[7]? =some (.int .i64 (c.dc 1))/\A[8]? =some (.int .i64 (c.dc 2))/\A[9]? =some (.int .i64 (c.dc 3))/\A[10]? =some (.int .i64 (c.dc 4))/\A[11]? =some (.int .i64 (c.dc 5)))/\
  (A[12]? =some (sl 0)/\A[13]? =some (sl 1)/\A[14]? =some (sl 2)/\A[15]? =some (sl 3)/\A[16]? =some (sl 4)/\A[17]? =some (sl 5)):=
 ⟨_,rfl,rfl,rfl,rfl,rfl,rfl,rfl,⟨rfl,rfl,rfl,rfl,rfl,rfl⟩,rfl,rfl,rfl,rfl,rfl,rfl⟩
theorem TS (c:Cel)(sl:Nat->A0)(w:A5):A9 prog 151 #[.agg (AJ c sl).toArray] w fun e d=>e=.returned (.bool (AD c.kind))/\Below w.heap.size w d:=by
 obtain⟨A,b,f0,f1,f2,f3,f4,f5,_,_⟩:=JL c sl;rw[b];clear b;have a:Hid (AD c.kind=(c.kind==3 || c.kind==4)):=Dp rfl;generalize AD c.kind=f at a ⊢;generalize c.kind=k at f2 a;rcases N3 (k==3) with t0|t0
 ·go_enter func151,ntmps151
  go_wp2
  go_ret
  exact⟨AH (by rw[a.out,t0];rfl),(Dq _ w).alloc (Ba _) _⟩
 ·go_enter func151,ntmps151
  go_wp2
  go_ret
  exact⟨AH (by rw[a.out,t0];rfl),(Dq _ w).alloc (Ba _) _⟩
theorem eA (inter:Bool)(k:Int)(w:A5):A9 prog 116 #[.bool inter,.int .i64 k] w fun e b=>e=.returned (.bool (EJ inter k))/\w=b:=by
 have c:∀v:Bool,EJ inter k=v->A9 prog 116 #[.bool inter,.int .i64 k] w fun e b=>e=.returned (.bool v)/\w=b:=by
  intro v hv;by_cases a:k=0
  ·subst a;cases inter <;> (subst hv;go_enter func116,ntmps116;go_wp2;go_ret;exact⟨rfl,rfl⟩)
  by_cases h1:k=1
  ·subst h1;cases inter <;> (subst hv;go_enter func116,ntmps116;go_wp2;go_ret;exact⟨rfl,rfl⟩)
  by_cases h3:k=3
  ·subst h3;cases inter <;> (subst hv;go_enter func116,ntmps116;go_wp2;go_ret;exact⟨rfl,rfl⟩)
  by_cases h4:k=4
  ·subst h4;cases inter <;> (subst hv;go_enter func116,ntmps116;go_wp2;go_ret;exact⟨rfl,rfl⟩)
  have d:v=false:=by rw[<-hv];simp[EJ,a,h1,h3,h4]
  subst d;have t0:(k==0)=false:=by rw[Fg];exact a
  have t1:(k==1)=false:=by rw[Fg];exact h1
  have t3:(k==3)=false:=by rw[Fg];exact h3
  have t4:(k==4)=false:=by rw[Fg];exact h4
  clear hv a h1 h3 h4
  go_enter func116,ntmps116
  go_wp2
  go_ret
  exact⟨rfl,rfl⟩
 exact c _ rfl
theorem RC (a b:Int)(w:A5):(Instr.index 73 (.agg #[.int .i64 a,.int .i64 b]) (.int .i64 0)).run prog w=.ok (.int .i64 a) w/\(Instr.index 73 (.agg #[.int .i64 a,.int .i64 b]) (.int .i64 1)).run prog w=.ok (.int .i64 b) w:=
 ⟨by kernel_rfl,by kernel_rfl⟩
theorem bR (w:A5)(b a:Obj):((w.alloc b).alloc a).heap[w.heap.size+1]? =some a:=by simpa using heap_alloc_new (w.alloc b) a
set_option maxRecDepth 100000 in
theorem TN (a b:Int)(w:A5):A9 prog 152 #[.agg #[.int .i64 a,.int .i64 b]] w fun e f=>e=.returned (.agg #[.int .i64 (AF a),.int .i64 (AF b)])/\Below w.heap.size w f:=by
 have c:=fun x=>OB a x;have d:=fun x=>OB b x;have h:=fun x=>(RC a b x).1;have i:=fun x=>(RC a b x).2;generalize AF a=u at c ⊢;generalize AF b=v at d ⊢
 go_enter func152,ntmps152
 go_wp2
 go_loopw [6] (fun z wr=>(z=.int .i64 0/\wr=(w.alloc (.cells #[.int .i64 a,.int .i64 b] 73 (0,0))).alloc (.cells #[.int .i64 0,.int .i64 0] 73 (0,0)))\/(z=.int .i64 1/\wr=(w.alloc (.cells #[.int .i64 u,.int .i64 b] 73 (0,0))).alloc (.cells #[.int .i64 0,.int .i64 0] 73 (0,0)))\/(z=.int .i64 2/\wr=(w.alloc (.cells #[.int .i64 u,.int .i64 v] 73 (0,0))).alloc (.cells #[.int .i64 0,.int .i64 0] 73 (0,0)))) (fun z _=>2-(intOf z).toNat)
 case atStart=>exact .inl ⟨rfl,rfl⟩
 case round=>
  rcases hrel with ⟨rfl,rfl⟩|⟨rfl,rfl⟩|⟨rfl,rfl⟩
  ·go_wp2_with fail
   refine(c _).mono ?_;rintro e g ⟨rfl,rfl⟩
   go_wp2
   go_roundw
   case rel=>exact .inr (.inl (by simp))
   case measure=>simp[intOf]
  ·go_wp2_with fail
   refine(d _).mono ?_;rintro e g ⟨rfl,rfl⟩
   go_wp2
   go_roundw
   case rel=>exact .inr (.inr (by simp))
   case measure=>simp[intOf]
  ·go_wp2
   refine H5 (H6 rfl _ _ (w.heap.size+1) 73 _ (0,0) _ rfl (bR w _ _) Gq rfl (by kernel_rfl)) rfl ?_;exact⟨rfl,((Dq _ w).alloc (Ba _) _).alloc (by simp) _⟩
set_option maxRecDepth 100000 in
theorem tQ (a b x y:Int)(w:A5)(T:-32<=a/\a<=31)(j:-32<=b/\b<=31):A9 prog 187 #[.agg #[.int .i64 a,.int .i64 b],.agg #[.int .i64 x,.int .i64 y]] w fun e U=>e=.returned (.agg #[.int .i64 (AF (a-AF x)),.int .i64 (AF (b-AF y))])/\Below w.heap.size w U:=by
 have V:=fun z=>TN x y z;have W:=fun z=>TN (a-AF x) (b-AF y) z;have i0:=fun z=>(RC (AF x) (AF y) z).1;have i1:=fun z=>(RC (AF x) (AF y) z).2;have s0:IntKind.i64.wrap (a-AF x)=a-AF x:=CL (by have:=IK x;omega);have s1:IntKind.i64.wrap (b-AF y)=b-AF y:=CL (by have:=IK y;omega);generalize AF x=u at *;generalize AF y=v at *;generalize AF (a-u)=O at *;generalize AF (b-v)=P at *
 clear T j;obtain⟨B,wA,wB,wC,Q,k,l,m,A,C,n,q,D,r,s⟩:=ZI w (.cells #[.int .i64 a,.int .i64 b] 73 (0,0)) (.cells #[.int .i64 x,.int .i64 y] 73 (0,0)) (.cells #[.int .i64 0,.int .i64 0] 73 (0,0));have E:=Dp k;have F:=Dp l;have G:=Dp m;have R:=Dp Q;clear k l m Q
 go_enter func187,ntmps187
 go_wp2_with fail
 rw[E.out,F.out,G.out,R.out];refine(V _).mono ?_;rintro e X ⟨rfl,c⟩;rw[n] at c;have f:=(c.block B (by omega)).trans q;have i:=(c.block (B+2) (by omega)).trans r;have d:=s.trans (c.mono (by omega));have t:B+3<=X.heap.size:=by have:=c.size;omega
 clear c q D r s A C n
 go_wp2
 go_loopw [9] (fun z wr=>∃g h:Int,((z=.int .i64 0/\g=a/\h=b)\/(z=.int .i64 1/\g=a-u/\h=b)\/(z=.int .i64 2/\g=a-u/\h=b-v))/\wr.heap[B]? =some (.cells [.int .i64 g,.int .i64 h].toArray 73 (0,0))/\wr.heap[B+2]? =some (.cells #[.int .i64 0,.int .i64 0] 73 (0,0))/\Below B w wr/\B+3<=wr.heap.size) (fun z _=>2-(intOf z).toNat)
 case atStart=>exact⟨a,b,.inl ⟨rfl,rfl,rfl⟩,f,i,d,t⟩
 case round=>
  clear f i d t;obtain⟨g,h,⟨rfl,rfl,rfl⟩|⟨rfl,rfl,rfl⟩|⟨rfl,rfl,rfl⟩,f,i,j,S⟩:=hrel
  ·have H:=AA (o:=0) f rfl;have c1:=AZ (o:=0) f;have I:=BF (o:=0) (.int .i64 (g-u)) f;have J:=(Ib wr ⟨B,0,none⟩ (.int .i64 (g-u)) (B+2) (by simp)).trans i;have K:=j.setCell (p:=⟨B,0,none⟩) (Ba _) (.int .i64 (g-u))
   go_wp2
   go_roundw
   case rel=>exact⟨_,_,.inr (.inl ⟨rfl,rfl,rfl⟩),I,J,K,by simpa using S⟩
   case measure=>simp[intOf]
  ·have H:=AA (o:=1) f rfl;have c1:=AZ (o:=1) f;have I:=BF (o:=1) (.int .i64 (h-v)) f;have J:=(Ib wr ⟨B,1,none⟩ (.int .i64 (h-v)) (B+2) (by simp)).trans i;have K:=j.setCell (p:=⟨B,1,none⟩) (Ba _) (.int .i64 (h-v))
   go_wp2
   go_roundw
   case rel=>exact⟨_,_,.inr (.inr ⟨rfl,rfl,rfl⟩),I,J,K,by simpa using S⟩
   case measure=>simp[intOf]
  ·have H:=AA (o:=0) f rfl;have c1:=AA (o:=1) f rfl
   go_wp2_with fail
   refine(W _).mono ?_;rintro e Y ⟨rfl,d⟩;have L:Y.heap[B+1+1]? =some (.cells [.int .i64 0,.int .i64 0].toArray 73 (0,0)):=(d.block (B+2) (by omega)).trans i;have M:=BF (o:=0) (.int .i64 O) L;have Z:=BF (o:=1) (.int .i64 P) M;have d0:=AA (o:=0) L rfl;have d1:=AZ (o:=0) L;have d2:=AA (o:=1) M rfl;have d3:=AZ (o:=1) M
   have N:=((j.trans (d.mono (by omega))).setCell (p:=⟨B+1+1,0,none⟩) (by show B<=B+1+1;omega) (.int .i64 O)).setCell (p:=⟨B+1+1,1,none⟩) (by show B<=B+1+1;omega) (.int .i64 P);clear f H c1 d
   go_wp2
   refine H5 (H6 rfl _ _ (B+1+1) 73 _ (0,0) _ rfl Z Gq rfl (by kernel_rfl)) rfl ?_;exact⟨rfl,by rw[R.out];exact N⟩
theorem VJ (f:Nat->A0)(w:A5):∀i:Nat,i<6->(Instr.index 75 (.agg #[f 0,f 1,f 2,f 3,f 4,f 5]) (.int .i64 (i:Nat))).run prog w=.ok (f i) w
 |0,_=>by kernel_rfl
 |1,_=>by kernel_rfl
 |2,_=>by kernel_rfl
 |3,_=>by kernel_rfl
 |4,_=>by kernel_rfl
 |5,_=>by kernel_rfl
theorem SP (c:Cel):∀i,B2 c i<2^i
 |0=>Nat.one_pos
 |i+1=>by
  have h1:=SP c i;have h2:=Rk c i;show 2*B2 c i+CG c i<2^(i+1);rw[Co];omega
theorem pI:∀m,m<64->wrap64 (((m:Nat):Int)*2)=((2*m:Nat):Int)/\bits .or .i64 (wrap64 (((m:Nat):Int)*2)) 1=((2*m+1:Nat):Int):=by decide +kernel
set_option maxRecDepth 100000 in
theorem Z3 (c:Cel)(p:Nat->Option Addr)(n k:Nat->Nat)(w:A5)(hc:GZ w c p n):A9 prog 149 #[.agg (AJ c fun i=>.slice (p i) (n i) (k i)).toArray] w fun e l=>e=.returned (.int .i64 (B2 c 6:Nat))/\Below w.heap.size w l:=by
 obtain⟨A,g,-,-,-,-,-,-,-,f12,f13,f14,f15,f16,f17⟩:=JL c fun i=>.slice (p i) (n i) (k i);rw[g];clear g
 go_enter func149,ntmps149
 go_wp2
 go_loopw [3,8] (fun t z wr=>∃i:Nat,i<=6/\z=.int .i64 i/\t=.int .i64 (B2 c i:Nat)/\Below w.heap.size w wr) (fun _ z _=>6-(intOf z).toNat)
 case atStart=>exact⟨0,by omega,rfl,rfl,(Dq _ w).alloc (Ba _) _⟩
 case round=>
  obtain⟨i,d,rfl,rfl,f⟩:=hrel;by_cases b:i<6
  ·have t0:decide ((i:Int)<6)=true:=by simp;omega
   have h1:(decide (0<n i)).toNat=CG c i:=by unfold CG;rw[(hc i b).1]
   have q:=fun x=>VJ (fun i=>.slice (p i) (n i) (k i)) x i b;clear hc;obtain⟨h,j⟩:=pI (B2 c i) (by
    have h2:=SP c i;have h3:2^i<=2^6:=Br (by decide) d;omega)
   have m:=Dp h;have o:=Dp j;have N:=Dp (show B2 c (i+1)=2*B2 c i+CG c i from rfl);clear h j;by_cases a:0<n i
   ·have t1:decide (0<n i)=true:=by simpa using a
    have t2:decide (0<(n i:Int))=true:=by simpa using a
    have H:=Dp (show CG c i=1 by rw[<-h1,t1];rfl);clear a h1
    go_wp2
    go_roundw
    case rel=>exact⟨i+1,by omega,by go_num,by rw[o.out,N.out,H.out],f⟩
    case measure=>simp[intOf];omega
   ·have t1:decide (0<n i)=false:=by simpa using a
    have t2:decide (0<(n i:Int))=false:=by simpa using a
    have H:=Dp (show CG c i=0 by rw[<-h1,t1];rfl);clear a h1
    go_wp2
    go_roundw
    case rel=>exact⟨i+1,by omega,by go_num,by rw[m.out,N.out,H.out];rfl,f⟩
    case measure=>simp[intOf];omega
  ·obtain rfl:i=6:=by omega
   go_wp2
   go_ret
   exact⟨rfl,f⟩
theorem uQ (c:Cel):(((B2 c 6:Nat):Int)==0)=(List.range 6).all fun i=>decide ((c.ev i).length=0):=by
 have h:∀i,CG c i=if (c.ev i).length=0 then 0 else 1:=by
  intro i;unfold CG;by_cases h:(c.ev i).length=0
  ·rw[Bc h,Km (by omega)];rfl
  ·rw[Bb h,Kn (by omega)];rfl
 have b:=h 0;have h1:=h 1;have h2:=h 2;have h3:=h 3;have h4:=h 4;have d:=h 5;rw[Jr,Bm,Bu,RF,QJ];unfold BU;constructor
 ·intro a i hi;rw[Fi];have hi:=Bt.1 hi;rcases (by omega:i=0\/i=1\/i=2\/i=3\/i=4\/i=5) with rfl|rfl|rfl|rfl|rfl|rfl
  all_goals
   refine Decidable.byContradiction fun hn=>?_
   first
    |(rw[Bb hn] at b;omega)
    |(rw[Bb hn] at h1;omega)
    |(rw[Bb hn] at h2;omega)
    |(rw[Bb hn] at h3;omega)
    |(rw[Bb hn] at h4;omega)
    |(rw[Bb hn] at d;omega)
 ·intro a;have a:=fun i hi=>Fq (a i (Bt.2 hi));rw[Bc (a 0 (by omega))] at b;rw[Bc (a 1 (by omega))] at h1;rw[Bc (a 2 (by omega))] at h2;rw[Bc (a 3 (by omega))] at h3;rw[Bc (a 4 (by omega))] at h4;rw[Bc (a 5 (by omega))] at d;omega
theorem ND (w:A5){c:Cel}{sl:Nat->A0}{A:Array A0}(a:(AJ c sl).toArray=A):∃(R:Nat) (w0:A5),w.heap.size=R/\w.alloc (.cells A 77 (0,0))=w0/\w0.heap.size=R+1/\Below R w w0/\(prog.info? 77).map (·.size)=some A.size/\
  (∀x,Below (R+1) w0 x->x.heap[R]? =some (.cells A 77 (0,0))/\x.heap[R]? =some (.cells (AJ c sl).toArray 77 (0,0))):=by
 subst a;refine⟨_,_,rfl,rfl,by simp,(Dq _ w).alloc (Ba _) _,Ql c sl,fun x b=>?_⟩;have h:=(b.block w.heap.size (by omega)).trans (heap_alloc_new w (.cells (AJ c sl).toArray 77 (0,0)));exact⟨h,h⟩
theorem eP {x:A5}{R:Nat}{c:Cel}{sl:Nat->A0}(h:x.heap[R]? =some (.cells (AJ c sl).toArray 77 (0,0))):x.cell? ⟨R,6,none⟩=some (.int .i64 (c.dc 0))/\x.cell? ⟨R,7,none⟩=some (.int .i64 (c.dc 1))/\x.cell? ⟨R,8,none⟩=some (.int .i64 (c.dc 2))/\x.cell? ⟨R,9,none⟩=some (.int .i64 (c.dc 3))/\x.cell? ⟨R,10,none⟩=some (.int .i64 (c.dc 4))/\x.cell? ⟨R,11,none⟩=some (.int .i64 (c.dc 5)):=
 ⟨AA h rfl,AA h rfl,AA h rfl,AA h rfl,AA h rfl,AA h rfl⟩
theorem FL {x:A5}{R:Nat}{c:Cel}{sl:Nat->A0}(h:x.heap[R]? =some (.cells (AJ c sl).toArray 77 (0,0))):x.cell? ⟨R,0,none⟩=some (.int .i64 c.stuff)/\x.cell? ⟨R,1,none⟩=some (.bool c.skip)/\x.cell? ⟨R,2,none⟩=some (.int .i64 c.kind)/\x.cell? ⟨R,3,none⟩=some (.int .i64 c.step)/\x.cell? ⟨R,4,none⟩=some (.int .i64 c.mx)/\x.cell? ⟨R,5,none⟩=some (.int .i64 c.my):=
 ⟨AA h rfl,AA h rfl,AA h rfl,AA h rfl,AA h rfl,AA h rfl⟩
set_option maxRecDepth 100000 in
theorem nQ (c:Cel)(p:Nat->Option Addr)(n k:Nat->Nat)(w:A5)(hc:GZ w c p n):A9 prog 115 #[.agg (AJ c fun i=>.slice (p i) (n i) (k i)).toArray] w fun e D=>e=.returned (.bool (FY c))/\Below w.heap.size w D:=by
 have a:=fun x (E:Below w.heap.size w x)=>Z3 c p n k x (hc.below E);have j:=fun x=>VN c.mx c.my x;have M:=wO c.dc fun _=>0;have f:Hid (FY c=((c.kind==0&&c.step==0&&(c.mx==0&&c.my==0))&&((List.range 6).all (fun i=>c.dc i==0)&&(((B2 c 6:Nat):Int)==0)))):=Dp (by rw[uQ];rfl);obtain⟨A,o,f0,f1,f2,f3,f4,f5,-,-⟩:=JL c fun i=>.slice (p i) (n i) (k i)
 obtain⟨R,w0,q,l,r,g,s,m⟩:=ND w o;simp only[o] at a;have t:=Dp m;rw[o];rw[q] at a;have u:=Dp l;have h:=Dp q;have F:=Dp a;clear o hc a l m q;generalize FY c=z at *;generalize (c.mx==0&&c.my==0)=v at *;generalize ((List.range 6).all fun i=>c.dc i==0)=y at *;generalize ((B2 c 6:Nat):Int)=N at *;generalize c.kind=G at *
 generalize c.step=H at *;cases t0:(G==0) with
 |false=>
  rw[t0] at f
  go_enter func115,ntmps115
  go_wp2
  go_ret
  exact⟨AH (by rw[f.out];rfl),by rw[u.out,h.out];exact g⟩
 |true=>
  cases t1:(H==0) with
  |false=>
   rw[t0,t1] at f
   go_enter func115,ntmps115
   go_wp2
   go_ret
   exact⟨AH (by rw[f.out];rfl),by rw[u.out,h.out];exact g⟩
  |true=>
   rw[t0,t1] at f
   go_enter func115,ntmps115
   go_wp2_with fail
   rw[u.out,h.out];refine(j _).mono ?_;rintro e I ⟨rfl,b⟩;rw[r] at b;obtain⟨J,K⟩:=t.out I b;obtain⟨d0,d1,d2,d3,d4,d5⟩:=eP K;have L:=b.size;have d:=g.trans (b.mono (by omega));cases v with
   |false=>
    go_wp2
    go_ret
    exact⟨AH (by rw[f.out];rfl),by rw[h.out];exact d⟩
   |true=>
    cases y with
    |false=>
     go_wp2
     go_ret
     exact⟨AH (by rw[f.out];rfl),by rw[h.out];exact d⟩
    |true=>
     go_wp2_with (with_reducible refine NI (by kernel_rfl) 77 _ rfl R rfl 77 A (0,0) _ J N0 rfl s ?_)
     refine(F.out _ d).mono ?_;rintro e O ⟨rfl,B⟩;have C:=d.trans (B.mono (by omega))
     go_wp2
     go_ret
     exact⟨AH (by rw[f.out];rfl),by rw[h.out];exact C⟩
end Go.Proofs.YtjjmalchelniiaaGreatDoor