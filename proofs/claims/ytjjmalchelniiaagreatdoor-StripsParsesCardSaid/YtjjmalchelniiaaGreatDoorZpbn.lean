/- No condition. -/
import Derived.Test.YtjjmalchelniiaaGreatDoorZpi
import Derived.Test.YtjjmalchelniiaaGreatDoorZpj
import Derived.Test.YtjjmalchelniiaaGreatDoorZpw
open Go.Proofs.Tryz
open Go renaming World->A5,Calls->A9,Value->A0
namespace Go.Proofs.YtjjmalchelniiaaGreatDoor
open Go.RowKit Go.Lib
theorem Wfb{p:Prop}(h:p:=by
 go_enter func115,ntmps115
 go_wp2
 go_ret
 exact⟨AJ zK,by rw[u.out,h.out];exact g⟩):p:=h
theorem Wfa{p:Prop}(h:p:=by
 go_enter func151,ntmps151
 go_wp2
 go_ret
 exact⟨AJ (by rw[a.out,t0];rfl),(Dn _ w).alloc (B9 _) _⟩):p:=h
theorem We9{p:Prop}(h:p:=by
 cases inter <;> (subst hv;go_enter func116,ntmps116;go_wp2;go_ret;exact⟨rfl,rfl⟩)):p:=h
theorem zK{p:Prop}(h:p:=by rw[f.out];rfl):p:=h
theorem zL{p:Prop}(h:p:=by simpa using a):p:=h
abbrev Oe:=@underlying77
abbrev Of:=@Bool.eq_false_or_eq_true
theorem YB (a b:Int)(w:A5):A9 prog 148 #[.agg #[.int .i64 a,.int .i64 b]] w fun e c=>e=.returned (.bool (a==0&&b==0))/\Below w.heap.size w c:=by
 have d:=V1 a b 0 0
 go_enter func148,ntmps148
 go_wp2
 go_ret
 exact⟨rfl,(Dn _ w).alloc (B9 _) _⟩
theorem Rm (c:Cel)(sl:Nat->A0):(prog.info? 77).map (·.size)=some (AD c sl).toArray.size:=tN
theorem KP (c:Cel)(sl:Nat->A0):∃A:Array A0,(AD c sl).toArray=A/\A[0]? =some (.int .i64 c.stuff)/\A[1]? =some (.bool c.skip)/\A[2]? =some (.int .i64 c.kind)/\A[3]? =some (.int .i64 c.step)/\A[4]? =some (.int .i64 c.mx)/\A[5]? =some (.int .i64 c.my)/\
  (A[6]? =some (.int .i64 (c.dc 0))/\A[7]? =some (.int .i64 (c.dc 1))/\A[8]? =some (.int .i64 (c.dc 2))/\A[9]? =some (.int .i64 (c.dc 3))/\A[10]? =some (.int .i64 (c.dc 4))/\A[11]? =some (.int .i64 (c.dc 5)))/\
  (A[12]? =some (sl 0)/\A[13]? =some (sl 1)/\A[14]? =some (sl 2)/\A[15]? =some (sl 3)/\A[16]? =some (sl 4)/\A[17]? =some (sl 5)):=
 ⟨_,rfl,rfl,rfl,rfl,rfl,rfl,rfl,⟨rfl,rfl,rfl,rfl,rfl,rfl⟩,rfl,rfl,rfl,rfl,rfl,rfl⟩
theorem VN (c:Cel)(sl:Nat->A0)(w:A5):A9 prog 151 #[.agg (AD c sl).toArray] w fun e d=>e=.returned (.bool (AG c.kind))/\Below w.heap.size w d:=by
 obtain⟨A,b,f0,f1,f2,f3,f4,f5,_,_⟩:=KP c sl;rw[b];clear b;have a:Hid (AG c.kind=(c.kind==3 || c.kind==4)):=Dm rfl;generalize AG c.kind=f at a ⊢;generalize c.kind=k at f2 a;rcases Of (k==3) with t0|t0
 ·exact Wfa
 ·exact Wfa
theorem Yu4 (inter:Bool)(k:Int)(w:A5):A9 prog 116 #[.bool inter,.int .i64 k] w fun e b=>e=.returned (.bool (IJ inter k))/\w=b:=by
 have c:∀v:Bool,IJ inter k=v->A9 prog 116 #[.bool inter,.int .i64 k] w fun e b=>e=.returned (.bool v)/\w=b:=by
  intro v hv;by_cases a:k=0
  ·subst a;exact We9
  by_cases h1:k=1
  ·subst h1;exact We9
  by_cases h3:k=3
  ·subst h3;exact We9
  by_cases h4:k=4
  ·subst h4;exact We9
  have d:v=false:=by rw[<-hv];simp[IJ,a,h1,h3,h4]
  subst d;have t0:(k==0)=false:=by rw[Fe];exact a
  have t1:(k==1)=false:=by rw[Fe];exact h1
  have t3:(k==3)=false:=by rw[Fe];exact h3
  have t4:(k==4)=false:=by rw[Fe];exact h4
  clear hv a h1 h3 h4
  go_enter func116,ntmps116
  go_wp2
  go_ret
  exact⟨rfl,rfl⟩
 exact c _ rfl
theorem Te (a b:Int)(w:A5):(Instr.index 73 (.agg #[.int .i64 a,.int .i64 b]) (.int .i64 0)).run prog w=.ok (.int .i64 a) w/\(Instr.index 73 (.agg #[.int .i64 a,.int .i64 b]) (.int .i64 1)).run prog w=.ok (.int .i64 b) w:=
 ⟨tN,tN⟩
theorem eW (w:A5)(b a:Obj):((w.alloc b).alloc a).heap[w.heap.size+1]? =some a:=by simpa using heap_alloc_new (w.alloc b) a
set_option maxRecDepth 100000 in
theorem VG (a b:Int)(w:A5):A9 prog 152 #[.agg #[.int .i64 a,.int .i64 b]] w fun e f=>e=.returned (.agg #[.int .i64 (AI a),.int .i64 (AI b)])/\Below w.heap.size w f:=by
 have c:=fun x=>P9 a x;have d:=fun x=>P9 b x;have h:=fun x=>(Te a b x).1;have i:=fun x=>(Te a b x).2;generalize AI a=u at c ⊢;generalize AI b=v at d ⊢
 go_enter func152,ntmps152
 go_wp2
 go_loopw [6] (fun z wr=>(z=.int .i64 0/\wr=(w.alloc (.cells #[.int .i64 a,.int .i64 b] 73 (0,0))).alloc (.cells #[.int .i64 0,.int .i64 0] 73 (0,0)))\/(z=.int .i64 1/\wr=(w.alloc (.cells #[.int .i64 u,.int .i64 b] 73 (0,0))).alloc (.cells #[.int .i64 0,.int .i64 0] 73 (0,0)))\/(z=.int .i64 2/\wr=(w.alloc (.cells #[.int .i64 u,.int .i64 v] 73 (0,0))).alloc (.cells #[.int .i64 0,.int .i64 0] 73 (0,0)))) (fun z _=>2-(intOf z).toNat)
 case atStart=>exact .inl ⟨rfl,rfl⟩
 case round=>
  rcases hrel with ⟨rfl,rfl⟩|⟨rfl,rfl⟩|⟨rfl,rfl⟩
  ·go_wp2_with fail
   refine(c _).mono ?_;rintro e g ⟨rfl,rfl⟩
   go_wp2
   go_roundw
   case rel=>exact .inr (.inl sV)
   case measure=>simp[intOf]
  ·go_wp2_with fail
   refine(d _).mono ?_;rintro e g ⟨rfl,rfl⟩
   go_wp2
   go_roundw
   case rel=>exact .inr (.inr sV)
   case measure=>simp[intOf]
  ·go_wp2
   refine Hb (Hc rfl _ _ (w.heap.size+1) 73 _ (0,0) _ rfl (eW w _ _) Gr rfl tN) rfl ?_;exact⟨rfl,((Dn _ w).alloc (B9 _) _).alloc sV _⟩
set_option maxRecDepth 100000 in
theorem Yr9 (a b x y:Int)(w:A5)(R:-32<=a/\a<=31)(j:-32<=b/\b<=31):A9 prog 187 #[.agg #[.int .i64 a,.int .i64 b],.agg #[.int .i64 x,.int .i64 y]] w fun e S=>e=.returned (.agg #[.int .i64 (AI (a-AI x)),.int .i64 (AI (b-AI y))])/\Below w.heap.size w S:=by
 have T:=fun z=>VG x y z;have U:=fun z=>VG (a-AI x) (b-AI y) z;have X:=fun z=>(Te (AI x) (AI y) z).1;have Y:=fun z=>(Te (AI x) (AI y) z).2;have Z:IntKind.i64.wrap (a-AI x)=a-AI x:=CE (by have:=Wv x;omega);have s1:IntKind.i64.wrap (b-AI y)=b-AI y:=CE (by have:=Wv y;omega);generalize AI x=u at *;generalize AI y=v at *;generalize AI (a-u)=M at *;generalize AI (b-v)=N at *;clear R j;obtain⟨B,wA,wB,wC,O,k,l,m,A,C,n,q,D,r,s⟩:=eE w (.cells #[.int .i64 a,.int .i64 b] 73 (0,0)) (.cells #[.int .i64 x,.int .i64 y] 73 (0,0)) (.cells #[.int .i64 0,.int .i64 0] 73 (0,0));have E:=Dm k;have F:=Dm l;have G:=Dm m;have P:=Dm O;clear k l m O
 go_enter func187,ntmps187
 go_wp2_with fail
 rw[E.out,F.out,G.out,P.out];refine(T _).mono ?_;rintro e V ⟨rfl,c⟩;rw[n] at c;have f:=(c.block B sX).trans q;have i:=(c.block (B+2) sX).trans r;have d:=s.trans (c.mono sX);have t:B+3<=V.heap.size:=by have:=c.size;omega
 clear c q D r s A C n
 go_wp2
 go_loopw [9] (fun z wr=>∃g h:Int,((z=.int .i64 0/\g=a/\h=b)\/(z=.int .i64 1/\g=a-u/\h=b)\/(z=.int .i64 2/\g=a-u/\h=b-v))/\wr.heap[B]? =some (.cells [.int .i64 g,.int .i64 h].toArray 73 (0,0))/\wr.heap[B+2]? =some (.cells #[.int .i64 0,.int .i64 0] 73 (0,0))/\Below B w wr/\B+3<=wr.heap.size) (fun z _=>2-(intOf z).toNat)
 case atStart=>exact⟨a,b,.inl ⟨rfl,rfl,rfl⟩,f,i,d,t⟩
 case round=>
  clear f i d t;obtain⟨g,h,⟨rfl,rfl,rfl⟩|⟨rfl,rfl,rfl⟩|⟨rfl,rfl,rfl⟩,f,i,j,Q⟩:=hrel
  ·have c0:=AA (o:=0) f rfl;have c1:=AL (o:=0) f;have H:=B3 (o:=0) (.int .i64 (g-u)) f;have I:=(Ib wr ⟨B,0,none⟩ (.int .i64 (g-u)) (B+2) sV).trans i;have J:=j.setCell (p:=⟨B,0,none⟩) (B9 _) (.int .i64 (g-u))
   go_wp2
   go_roundw
   case rel=>exact⟨_,_,.inr (.inl ⟨rfl,rfl,rfl⟩),H,I,J,by simpa using Q⟩
   case measure=>simp[intOf]
  ·have c0:=AA (o:=1) f rfl;have c1:=AL (o:=1) f;have H:=B3 (o:=1) (.int .i64 (h-v)) f;have I:=(Ib wr ⟨B,1,none⟩ (.int .i64 (h-v)) (B+2) sV).trans i;have J:=j.setCell (p:=⟨B,1,none⟩) (B9 _) (.int .i64 (h-v))
   go_wp2
   go_roundw
   case rel=>exact⟨_,_,.inr (.inr ⟨rfl,rfl,rfl⟩),H,I,J,by simpa using Q⟩
   case measure=>simp[intOf]
  ·have c0:=AA (o:=0) f rfl;have c1:=AA (o:=1) f rfl
   go_wp2_with fail
   refine(U _).mono ?_;rintro e W ⟨rfl,d⟩;have K:W.heap[B+1+1]? =some (.cells [.int .i64 0,.int .i64 0].toArray 73 (0,0)):=(d.block (B+2) sX).trans i;have e1:=B3 (o:=0) (.int .i64 M) K;have e2:=B3 (o:=1) (.int .i64 N) e1;have d0:=AA (o:=0) K rfl;have d1:=AL (o:=0) K;have d2:=AA (o:=1) e1 rfl;have d3:=AL (o:=1) e1;have L:=((j.trans (d.mono sX)).setCell (p:=⟨B+1+1,0,none⟩) (by show B<=B+1+1;omega) (.int .i64 M)).setCell (p:=⟨B+1+1,1,none⟩) (by show B<=B+1+1;omega) (.int .i64 N);clear f c0 c1 d
   go_wp2
   refine Hb (Hc rfl _ _ (B+1+1) 73 _ (0,0) _ rfl e2 Gr rfl tN) rfl ?_;exact⟨rfl,by rw[P.out];exact L⟩
theorem dK (f:Nat->A0)(w:A5):∀i:Nat,i<6->(Instr.index 75 (.agg #[f 0,f 1,f 2,f 3,f 4,f 5]) (.int .i64 (i:Nat))).run prog w=.ok (f i) w
 |0,_=>tN
 |1,_=>tN
 |2,_=>tN
 |3,_=>tN
 |4,_=>tN
 |5,_=>tN
theorem cD (c:Cel):∀i,BT c i<2^i
 |0=>Nat.one_pos
 |i+1=>by
  have h1:=cD c i;have h2:=W2 c i;show 2*BT c i+F8 c i<2^(i+1);rw[Cp];omega
theorem Qpp:∀m,m<64->wrap64 (((m:Nat):Int)*2)=((2*m:Nat):Int)/\bits .or .i64 (wrap64 (((m:Nat):Int)*2)) 1=((2*m+1:Nat):Int):=uB
set_option maxRecDepth 100000 in
theorem XX (c:Cel)(p:Nat->Option Addr)(n k:Nat->Nat)(w:A5)(hc:IF w c p n):A9 prog 149 #[.agg (AD c fun i=>.slice (p i) (n i) (k i)).toArray] w fun e l=>e=.returned (.int .i64 (BT c 6:Nat))/\Below w.heap.size w l:=by
 obtain⟨A,g,-,-,-,-,-,-,-,f12,f13,f14,f15,f16,f17⟩:=KP c fun i=>.slice (p i) (n i) (k i);rw[g];clear g
 go_enter func149,ntmps149
 go_wp2
 go_loopw [3,8] (fun t z wr=>∃i:Nat,i<=6/\z=.int .i64 i/\t=.int .i64 (BT c i:Nat)/\Below w.heap.size w wr) (fun _ z _=>6-(intOf z).toNat)
 case atStart=>exact⟨0,sX,rfl,rfl,(Dn _ w).alloc (B9 _) _⟩
 case round=>
  obtain⟨i,d,rfl,rfl,f⟩:=hrel;by_cases b:i<6
  ·have t0:decide ((i:Int)<6)=true:=sU;have h1:(decide (0<n i)).toNat=F8 c i:=by unfold F8;rw[(hc i b).1]
   have q:=fun x=>dK (fun i=>.slice (p i) (n i) (k i)) x i b;clear hc;obtain⟨h,j⟩:=Qpp (BT c i) (by
    have h2:=cD c i;have h3:2^i<=2^6:=Br sY d;omega)
   have m:=Dm h;have o:=Dm j;have N:=Dm (show BT c (i+1)=2*BT c i+F8 c i from rfl);clear h j;by_cases a:0<n i
   ·have t1:decide (0<n i)=true:=zL;have t2:decide (0<(n i:Int))=true:=zL;have H:=Dm (show F8 c i=1 by rw[<-h1,t1];rfl);clear a h1
    go_wp2
    go_roundw
    case rel=>exact⟨i+1,sX,tP,by rw[o.out,N.out,H.out],f⟩
    case measure=>simp[intOf];omega
   ·have t1:decide (0<n i)=false:=zL;have t2:decide (0<(n i:Int))=false:=zL;have H:=Dm (show F8 c i=0 by rw[<-h1,t1];rfl);clear a h1
    go_wp2
    go_roundw
    case rel=>exact⟨i+1,sX,tP,by rw[m.out,N.out,H.out];rfl,f⟩
    case measure=>simp[intOf];omega
  ·obtain rfl:i=6:=sX
   go_wp2
   go_ret
   exact⟨rfl,f⟩
theorem oH (c:Cel):(((BT c 6:Nat):Int)==0)=(List.range 6).all fun i=>decide ((c.ev i).length=0):=by
 have h:∀i,F8 c i=if (c.ev i).length=0 then 0 else 1:=by
  intro i;unfold F8;by_cases h:(c.ev i).length=0
  ·rw[Bb h,Gl sX];rfl
  ·rw[Ba h,Gm sX];rfl
 have b:=h 0;have h1:=h 1;have h2:=h 2;have h3:=h 3;have h4:=h 4;have d:=h 5;rw[Jc,Bj,Bw,Sq,R8];unfold DK;constructor
 ·intro a i hi;rw[Fg];have hi:=Bs.1 hi;rcases (by omega:i=0\/i=1\/i=2\/i=3\/i=4\/i=5) with rfl|rfl|rfl|rfl|rfl|rfl
  all_goals
   refine Decidable.byContradiction fun hn=>?_
   first
    |(rw[Ba hn] at b;omega)
    |(rw[Ba hn] at h1;omega)
    |(rw[Ba hn] at h2;omega)
    |(rw[Ba hn] at h3;omega)
    |(rw[Ba hn] at h4;omega)
    |(rw[Ba hn] at d;omega)
 ·intro a;have a:=fun i hi=>Fm (a i (Bs.2 hi));rw[Bb (a 0 sX)] at b;rw[Bb (a 1 sX)] at h1;rw[Bb (a 2 sX)] at h2;rw[Bb (a 3 sX)] at h3;rw[Bb (a 4 sX)] at h4;rw[Bb (a 5 sX)] at d;omega
theorem R0 (w:A5){c:Cel}{sl:Nat->A0}{A:Array A0}(a:(AD c sl).toArray=A):∃(R:Nat) (w0:A5),w.heap.size=R/\w.alloc (.cells A 77 (0,0))=w0/\w0.heap.size=R+1/\Below R w w0/\(prog.info? 77).map (·.size)=some A.size/\
  (∀x,Below (R+1) w0 x->x.heap[R]? =some (.cells A 77 (0,0))/\x.heap[R]? =some (.cells (AD c sl).toArray 77 (0,0))):=by
 subst a;refine⟨_,_,rfl,rfl,sV,(Dn _ w).alloc (B9 _) _,Rm c sl,fun x b=>?_⟩;have h:=(b.block w.heap.size sX).trans (heap_alloc_new w (.cells (AD c sl).toArray 77 (0,0)));exact⟨h,h⟩
theorem Qog {x:A5}{R:Nat}{c:Cel}{sl:Nat->A0}(h:x.heap[R]? =some (.cells (AD c sl).toArray 77 (0,0))):x.cell? ⟨R,6,none⟩=some (.int .i64 (c.dc 0))/\x.cell? ⟨R,7,none⟩=some (.int .i64 (c.dc 1))/\x.cell? ⟨R,8,none⟩=some (.int .i64 (c.dc 2))/\x.cell? ⟨R,9,none⟩=some (.int .i64 (c.dc 3))/\x.cell? ⟨R,10,none⟩=some (.int .i64 (c.dc 4))/\x.cell? ⟨R,11,none⟩=some (.int .i64 (c.dc 5)):=
 ⟨AA h rfl,AA h rfl,AA h rfl,AA h rfl,AA h rfl,AA h rfl⟩
theorem UC {x:A5}{R:Nat}{c:Cel}{sl:Nat->A0}(h:x.heap[R]? =some (.cells (AD c sl).toArray 77 (0,0))):x.cell? ⟨R,0,none⟩=some (.int .i64 c.stuff)/\x.cell? ⟨R,1,none⟩=some (.bool c.skip)/\x.cell? ⟨R,2,none⟩=some (.int .i64 c.kind)/\x.cell? ⟨R,3,none⟩=some (.int .i64 c.step)/\x.cell? ⟨R,4,none⟩=some (.int .i64 c.mx)/\x.cell? ⟨R,5,none⟩=some (.int .i64 c.my):=
 ⟨AA h rfl,AA h rfl,AA h rfl,AA h rfl,AA h rfl,AA h rfl⟩
set_option maxRecDepth 100000 in
theorem qA (c:Cel)(p:Nat->Option Addr)(n k:Nat->Nat)(w:A5)(hc:IF w c p n):A9 prog 115 #[.agg (AD c fun i=>.slice (p i) (n i) (k i)).toArray] w fun e D=>e=.returned (.bool (JY c))/\Below w.heap.size w D:=by
 have a:=fun x (E:Below w.heap.size w x)=>XX c p n k x (hc.below E);have j:=fun x=>YB c.mx c.my x;have M:=YD c.dc fun _=>0;have f:Hid (JY c=((c.kind==0&&c.step==0&&(c.mx==0&&c.my==0))&&((List.range 6).all (fun i=>c.dc i==0)&&(((BT c 6:Nat):Int)==0)))):=Dm (by rw[oH];rfl);obtain⟨A,o,f0,f1,f2,f3,f4,f5,-,-⟩:=KP c fun i=>.slice (p i) (n i) (k i);obtain⟨R,w0,q,l,r,g,s,m⟩:=R0 w o;simp only[o] at a;have t:=Dm m;rw[o];rw[q] at a;have u:=Dm l;have h:=Dm q;have F:=Dm a;clear o hc a l m q;generalize JY c=z at *;generalize (c.mx==0&&c.my==0)=v at *;generalize ((List.range 6).all fun i=>c.dc i==0)=y at *;generalize ((BT c 6:Nat):Int)=N at *;generalize c.kind=G at *;generalize c.step=H at *;cases t0:(G==0) with
 |false=>
  rw[t0] at f
  exact Wfb
 |true=>
  cases t1:(H==0) with
  |false=>
   rw[t0,t1] at f
   exact Wfb
  |true=>
   rw[t0,t1] at f
   go_enter func115,ntmps115
   go_wp2_with fail
   rw[u.out,h.out];refine(j _).mono ?_;rintro e I ⟨rfl,b⟩;rw[r] at b;obtain⟨J,K⟩:=t.out I b;obtain⟨d0,d1,d2,d3,d4,d5⟩:=Qog K;have L:=b.size;have d:=g.trans (b.mono sX);cases v with
   |false=>
    go_wp2
    go_ret
    exact⟨AJ zK,by rw[h.out];exact d⟩
   |true=>
    cases y with
    |false=>
     go_wp2
     go_ret
     exact⟨AJ zK,by rw[h.out];exact d⟩
    |true=>
     go_wp2_with (with_reducible refine OZ tN 77 _ rfl R rfl 77 A (0,0) _ J Oe rfl s ?_)
     refine(F.out _ d).mono ?_;rintro e O ⟨rfl,B⟩;have C:=d.trans (B.mono sX)
     go_wp2
     go_ret
     exact⟨AJ zK,by rw[h.out];exact C⟩
end Go.Proofs.YtjjmalchelniiaaGreatDoor