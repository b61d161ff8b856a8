/- StripsChecks, 43. No condition. -/
import Derived.Test.YtjjmalchelniiaaGreatDoorStripsChecksMa
import Derived.Test.YtjjmalchelniiaaGreatDoorStripsChecksMe
import Derived.Test.YtjjmalchelniiaaGreatDoorStripsChecksMt
import Derived.Test.YtjjmalchelniiaaGreatDoorStripsChecksMv
import Derived.Test.YtjjmalchelniiaaGreatDoorStripsChecksMw
import Derived.Test.YtjjmalchelniiaaGreatDoorStripsChecksMx
import Derived.Test.YtjjmalchelniiaaGreatDoorStripsChecksMbm
import Derived.Test.YtjjmalchelniiaaGreatDoorStripsChecksMbn
open Go.Proofs.Tryz
open Go renaming World->A5,Calls->A9
set_option maxHeartbeats 2000000
namespace Go.Proofs.YtjjmalchelniiaaGreatDoor
open Go.RowKit Go.Lib
abbrev Nr:=@Bool.eq_false_iff
abbrev Ns:=@ntmps86
abbrev Nt:=@trivial
abbrev Nu:=@func86
theorem aS (i:Bool)(w:A5):A9 prog 133 #[.bool i] w fun e a=>e=.returned (.int .i64 (AZ i:Nat))/\w=a:=by
 cases i
 all_goals
  go_enter func133,ntmps133
  go_wp2
  go_ret
  exact⟨rfl,rfl⟩
set_option maxRecDepth 100000 in
theorem lM (i:Bool)(d:Int)(p:Option Addr)(l:List Ev)(c:Nat)(w:A5)(U:CE w p l)(H:l.length<=140737488355328):
  A9 prog 123 #[.bool i,.int .i64 d,.slice p l.length c] w fun e w'=>e=.returned (.bool (CI i d l))/\Below w.heap.size w w':=by
 obtain⟨B,V⟩:=Ai w.heap.size;have z:=fun x=>aS i x;have a:=tV p l c ((AZ i:Nat):Int) w U H;unfold MV at a;have A:((lvG l ((AZ i:Nat):Int)).2=0/\D7 (AZ i) l l.length=false)\/((lvG l ((AZ i:Nat):Int)).2=7/\D7 (AZ i) l l.length=true):=by
  cases hb:D7 (AZ i) l l.length with
  |false=>exact .inl ⟨UV hb,rfl⟩
  |true=>exact .inr ⟨YS hb,rfl⟩
 have v:CI i d l=(H6 i d && !D7 (AZ i) l l.length):=rfl;rw[v];have b:=N7 (lvG l ((AZ i:Nat):Int)).1;have q:(prog.info? 180).map (·.size)=some (CQ (lvG l ((AZ i:Nat):Int)).1).size:=MS _;obtain⟨Y,P⟩:=Ai (CQ (fun _=>0));have C:∀w,(zeroValue 180).run prog w=.ok (.agg Y) w:=by rw[<-P];exact P0
 have s:Y.size=(CQ (lvG l ((AZ i:Nat):Int)).1).size:=by rw[<-P,JG,JG]
 generalize CQ (lvG l ((AZ i:Nat):Int)).1=Z at a b q s;generalize (lvG l ((AZ i:Nat):Int)).2=f at a A;generalize D7 (AZ i) l l.length=bv at A ⊢;generalize ((AZ i:Nat):Int)=fr at z a;have O:=Dl V;generalize l.length=n at a ⊢;obtain⟨M,D⟩:=Ai (H6 i d && !bv);rw[D];clear U P V H v
 go_enter func123,ntmps123
 go_wp2_with fail
 refine(z _).mono ?_;rintro e E ⟨rfl,rfl⟩
 go_wp2_with fail
 refine a.mono ?_;rintro e E ⟨rfl,t⟩;rw[O.out] at t;have I:B<=E.heap.size:=by rw[<-O.out];exact(show Below w.heap.size w E by rw[O.out];exact t).size
 obtain⟨X,Q⟩:=Ai E.heap.size;have j:=heap_alloc_new E (.cells Y 180 (0,0));have u:=t.alloc I (.cells Y 180 (0,0));have J:(E.alloc (.cells Y 180 (0,0))).heap.size=X+1:=by simp;omega
 rw[Q] at j;generalize K:E.alloc (.cells Y 180 (0,0))=w4 at j u J;have F:=Dl K;have S:=Dl Q;have g:=Dl (show B<=X by omega);clear K Q t I a z;have G:=Dl (fun(r:Bool) (x:A5) (hx:Below B w x) (h:M=r)=>(⟨by rw[h],by rw[O.out];exact hx⟩:Ending.returned (.bool r)=.returned (.bool M)/\Below w.heap.size w x));rcases A with ⟨rfl,rfl⟩|⟨rfl,rfl⟩
 ·cases i with
  |false=>
   obtain⟨L,T⟩:=Ai (d==0);have R:=Dl (show M=L by rw[<-D,aE,T];simp);clear D;cases L
   all_goals
    go_wp2_with (rw[F.out,S.out];with_reducible refine B2 rfl 180 _ _ rfl X Z Y rfl rfl 180 j q s b ?_;intro W N m;clear C)
    have o:=u.grown m (by have:=g.out;omega) (fun k y=>by injection y with y;have:=g.out;omega)
    go_ret
    exact G.out _ _ o R.out
  |true=>
   obtain⟨L,T⟩:=Ai (decide (1<=d));obtain⟨b1,h1⟩:=Ai (decide (d<=254));have R:=Dl (show M=(L&&b1) by rw[<-D,VF,T,h1];simp);clear D;cases L <;> cases b1
   all_goals
    go_wp2_with (rw[F.out,S.out];with_reducible refine B2 rfl 180 _ _ rfl X Z Y rfl rfl 180 j q s b ?_;intro W N m;clear C)
    have o:=u.grown m (by have:=g.out;omega) (fun k y=>by injection y with y;have:=g.out;omega)
    go_ret
    exact G.out _ _ o R.out
 ·have R:=Dl (show M=false by rw[<-D];simp);clear D;cases i
  all_goals
   go_wp2_with (rw[F.out,S.out];with_reducible refine B2 rfl 180 _ _ rfl X Z Y rfl rfl 180 j q s b ?_;intro W N m;clear C)
   have o:=u.grown m (by have:=g.out;omega) (fun k y=>by injection y with y;have:=g.out;omega)
   go_ret
   exact G.out _ _ o R.out
theorem lS {c:Cel}:FY c=true↔(c.kind=0/\c.step=0/\c.mx=0/\c.my=0)/\∀i,i<6->c.dc i=0/\(c.ev i).length=0:=by
 unfold FY;simp only[Am,Bm,Bu,Bq,Av];constructor
 ·rintro⟨⟨⟨h1,h2⟩,h3,h4⟩,a,b⟩;exact⟨⟨h1,h2,h3,h4⟩,fun i hi=>⟨a i hi,b i hi⟩⟩
 ·rintro⟨⟨h1,h2,h3,h4⟩,a⟩;exact⟨⟨⟨h1,h2⟩,h3,h4⟩,fun i hi=>(a i hi).1,fun i hi=>(a i hi).2⟩
set_option maxRecDepth 100000 in
theorem zE (c:Cel)(p:Nat->Option Addr)(n k:Nat->Nat)(w:A5)(hc:FP w c p n):A9 prog 122 #[.agg (AF c fun i=>.slice (p i) (n i) (k i)).toArray] w fun e t=>e=.returned (.bool (FY c))/\Below w.heap.size w t:=by
 obtain⟨A,q,f0,f1,f2,f3,f4,f5,⟨f6,f7,f8,f9,f10,f11⟩,f12,f13,f14,f15,f16,f17⟩:=IJ c fun i=>.slice (p i) (n i) (k i);obtain⟨R,w0,s,l,u,a,v,m⟩:=MU w q;have b:=(m w0 (Dm _ _)).2;obtain⟨-,-,c2,c3,F,G⟩:=FL b;have x:=Dl (fun i (hi:i<6)=>A2 (o:=6+i) b (IY c _ i hi))
 have y:=Dl (fun i (hi:i<6)=>A2 (o:=12+i) b (HM c (fun i=>.slice (p i) (n i) (k i)) i hi));have B:=Dl (fun i hi=>(hc i hi).1);have g:=Dl (lS (c:=c));rw[q];have C:=Dl l;have f:=Dl s;clear q l s m b hc f0 f1 f2 f3 f4 f5 f6 f7 f8 f9 f10 f11 f12 f13 f14 f15 f16 f17
 go_enter func122,ntmps122
 go_wp2
 rw[C.out,f.out]
 go_loopw [3] (fun z wr=>∃i:Nat,i<=6/\z=.int .i64 i/\wr=w0/\Hid (∀j,j<i->c.dc j=0/\(c.ev j).length=0)) (fun z _=>6-(RowKit.intOf z).toNat)
 case atStart=>exact⟨0,by omega,rfl,rfl,Dl fun j h=>absurd h (Fc j)⟩
 case round=>
  obtain⟨i,D,rfl,rfl,zs⟩:=hrel;by_cases d:i<6
  ·have t0:decide ((i:Int)<6)=true:=by simp;omega
   have H:=y.out i d;have d0:=x.out i d;have r:=B.out i d;by_cases hn:0<n i
   ·have t1:decide (0<n i)=true:=Gq hn;have t2:decide (0<(n i:Int))=true:=Gq (by omega);have Z:Hid (FY c=false):=Dl (Nr.2 fun h=>by have h2:=((g.out.1 h).2 i d).2;omega);clear hn r
    go_wp2
    go_ret
    exact⟨AB Z.out.symm,by rw[f.out];exact a⟩
   ·have t1:decide (0<n i)=false:=Gp hn;have t2:decide (0<(n i:Int))=false:=Gp (by omega);by_cases hd:c.dc i=0
    ·have t3:(c.dc i != 0)=false:=by simpa using hd
     have E:=Dl (⟨hd,by omega⟩:c.dc i=0/\(c.ev i).length=0);clear hn r hd
     go_wp2
     go_roundw
     case rel=>exact⟨i+1,by omega,by go_num,by trivial,Dl fun j hj=>(Gu.1 hj).elim (zs.out j) fun h=>h▸E.out⟩
     case measure=>simp[RowKit.intOf];omega
    ·have t3:(c.dc i != 0)=true:=by simpa using hd
     have Z:Hid (FY c=false):=Dl (Nr.2 fun h=>hd ((g.out.1 h).2 i d).1);clear hn r hd
     go_wp2
     go_ret
     exact⟨AB Z.out.symm,by rw[f.out];exact a⟩
  ·obtain rfl:i=6:=by omega
   cases t1:(c.kind==0) with
   |false=>
    go_wp2
    go_ret
    exact⟨AB (Nr.2 fun h=>by have h2:=(g.out.1 h).1;rw[Ez] at t1;exact t1 h2.1).symm,by rw[f.out];exact a⟩
   |true=>
    cases t2:(c.step==0) with
    |false=>
     go_wp2
     go_ret
     exact⟨AB (Nr.2 fun h=>by have h2:=(g.out.1 h).1;rw[Ez] at t2;exact t2 h2.2.1).symm,by rw[f.out];exact a⟩
    |true=>
     cases t3:(c.mx==0) with
     |false=>
      go_wp2
      go_ret
      exact⟨AB (Nr.2 fun h=>by have h2:=(g.out.1 h).1;rw[Ez] at t3;exact t3 h2.2.2.1).symm,by rw[f.out];exact a⟩
     |true=>
      cases t4:(c.my==0) with
      |false=>
       go_wp2
       go_ret
       exact⟨AB (Nr.2 fun h=>by have h2:=(g.out.1 h).1;rw[Ez] at t4;exact t4 h2.2.2.2).symm,by rw[f.out];exact a⟩
      |true=>
       go_wp2
       go_ret
       exact⟨AB (g.out.2 ⟨⟨by simpa using t1,by simpa using t2,by simpa using t3,by simpa using t4⟩,zs.out⟩).symm,by rw[f.out];exact a⟩
def AU (k m:Int):Bool:=if AE k then m==0 else m==AM m
theorem gE (k mx my:Int):H4 k mx my=(AU k mx&&AU k my):=by
 unfold H4 AU
 split <;> rfl
set_option maxRecDepth 100000 in
theorem ZH (inter:Bool)(c:Cel)(p:Nat->Option Addr)(n k:Nat->Nat)(w:A5)(hc:FP w c p n):A9 prog 86 #[.bool inter,.agg (AF c fun i=>.slice (p i) (n i) (k i)).toArray] w fun e w'=>e=.returned (.bool (BE inter c))/\Below w.heap.size w w':=by
 have V:=fun x (b:Below w.heap.size w x)=>zE c p n k x (hc.below b);have al:=fun x=>kC c.step x;have W:=fun x=>Wn c.kind x;have ab:=fun i (hi:i<6) x (b:Below w.heap.size w x)=>lM (AE c.kind) (c.dc i) (p i) (c.ev i) (k i) x ((hc i hi).2.2.below b) (by have:=(hc i hi).1;have:=(hc i hi).2.1;omega);have Y:=Dl (fun i hi=>(hc i hi).1)
 obtain⟨A,hA,f0,f1,f2,f3,f4,f5,-,-⟩:=IJ c fun i=>.slice (p i) (n i) (k i);obtain⟨R,w0,hR,am,an,a,au,ao⟩:=MU w hA;simp only[hA] at V;rw[hR] at V ab;rw[hA];have E:=Dl am;have q:=Dl hR;have g:=Dl ao;have av:=Dl V;have X:=Dl ab
 have N:Hid (BE inter c=((decide (0<=c.stuff)&&decide (c.stuff<=64))&&(if c.skip then inter&&FY c else (EI inter c.kind&&EV c.kind c.step)&&(AU c.kind c.mx&&AU c.kind c.my&&EE c)))):=Dl (by rw[<-gE];rfl);have aa:=Dl (O2 (c:=c));clear hA am hR ao V ab hc;generalize BE inter c=z at *;by_cases h0:c.stuff<0
 ·have t0:decide (c.stuff<0)=true:=Gq h0;have Z:=Dl (show z=false by rw[N.out,Gp (by omega:¬ 0<=c.stuff)];rfl);clear h0 N
  go_enter Nu,Ns
  go_wp2
  go_ret
  exact⟨AB Z.out.symm,by rw[E.out,q.out];exact a⟩
 by_cases h1:64<c.stuff
 ·have t0:decide (c.stuff<0)=false:=Gp h0;have t1:decide (64<c.stuff)=true:=Gq h1;have Z:=Dl (show z=false by rw[N.out,Gp (by omega:¬ c.stuff<=64),Gv];rfl);clear h0 h1 N
  go_enter Nu,Ns
  go_wp2
  go_ret
  exact⟨AB Z.out.symm,by rw[E.out,q.out];exact a⟩
 have t0:decide (c.stuff<0)=false:=Gp h0;have t1:decide (64<c.stuff)=false:=Gp h1;rw[Gq (by omega:0<=c.stuff),Gq (by omega:c.stuff<=64)] at N;clear h0 h1;cases hsk:c.skip with
 |true=>
  rw[hsk] at N f1;cases inter with
  |false=>
   have Z:=Dl (show z=false by rw[N.out];rfl)
   go_enter Nu,Ns
   go_wp2
   go_ret
   exact⟨AB Z.out.symm,by rw[E.out,q.out];exact a⟩
  |true=>
   have Z:=Dl (show z=FY c by rw[N.out];rfl)
   go_enter Nu,Ns
   go_wp2_with (with_reducible refine MB (by kernel_rfl) 77 _ rfl w.heap.size rfl 77 A (0,0) _ (heap_alloc_new w _) N3 rfl au ?_)
   rw[E.out,q.out];refine(av.out _ a).mono ?_;rintro e w1 ⟨rfl,F⟩;have aw:=a.trans (F.mono (by omega))
   go_wp2
   go_ret
   exact⟨AB Z.out.symm,by rw[q.out];exact aw⟩
 |false=>
  rw[hsk] at N f1;have ar:=Dl (show z=((EI inter c.kind&&EV c.kind c.step)&&(AU c.kind c.mx&&AU c.kind c.my&&EE c)) by rw[N.out];rfl);clear N;generalize ap:c.kind=kd at *;have M:=Dl ap;clear ap;have bad:∀(h:EI inter kd=false),Hid (z=false):=fun h=>Dl (by rw[ar.out,h];rfl);by_cases k0:kd<0
  ·have s0:decide (kd<0)=true:=Gq k0;have Z:=bad (by unfold EI;rw[Ez.2 (by omega:kd≠3),Ez.2 (by omega:kd≠4),Ez.2 (by omega:kd≠0),Ez.2 (by omega:kd≠1)];cases inter <;> rfl);clear k0 bad
   go_enter Nu,Ns
   go_wp2
   go_ret
   exact⟨AB Z.out.symm,by rw[E.out,q.out];exact a⟩
  by_cases k4:4<kd
  ·have s0:decide (kd<0)=false:=Gp k0;have s1:decide (4<kd)=true:=Gq k4;have Z:=bad (by unfold EI;rw[Ez.2 (by omega:kd≠3),Ez.2 (by omega:kd≠4),Ez.2 (by omega:kd≠0),Ez.2 (by omega:kd≠1)];cases inter <;> rfl);clear k0 k4 bad
   go_enter Nu,Ns
   go_wp2
   go_ret
   exact⟨AB Z.out.symm,by rw[E.out,q.out];exact a⟩
  have ac:kd=2\/((kd=0\/kd=1)/\inter=false)\/((kd=3\/kd=4\/kd=0\/kd=1)/\EI inter kd=true):=by
   rcases (by omega:kd=0\/kd=1\/kd=2\/kd=3\/kd=4) with rfl|rfl|rfl|rfl|rfl <;> cases inter <;> simp[EI]
  clear k0 k4;rcases ac with rfl|⟨rfl|rfl,rfl⟩|⟨ac,ad⟩
  ·have Z:=bad (by cases inter <;> rfl);clear bad
   go_enter Nu,Ns
   go_wp2
   go_ret
   exact⟨AB Z.out.symm,by rw[E.out,q.out];exact a⟩
  ·have Z:=bad rfl;clear bad
   go_enter Nu,Ns
   go_wp2
   go_ret
   exact⟨AB Z.out.symm,by rw[E.out,q.out];exact a⟩
  ·have Z:=bad rfl;clear bad
   go_enter Nu,Ns
   go_wp2
   go_ret
   exact⟨AB Z.out.symm,by rw[E.out,q.out];exact a⟩
  rw[ad] at ar;have s:=Dl (show z=(EV kd c.step&&(AU kd c.mx&&AU kd c.my&&EE c)) by rw[ar.out,Gw]);have C:inter=false->¬ (kd=0\/kd=1):=fun h e=>by subst h;rcases e with rfl|rfl <;> simp[EI] at ad
  clear bad ar ad;rcases ac with rfl|rfl|rfl|rfl
  ·clear C;by_cases hs:c.step=0
   ·have u:(c.step != 0)=false:=by simpa using hs
    have G:Hid (EV 3 c.step=true):=Dl (by rw[hs];rfl);have B:Below (R+1) w0 w0:=Dm _ _;clear hs
    go_enter Nu,Ns
    go_wp2
    rw[E.out,q.out]
    go_loopw [5] (fun v wr=>∃i:Nat,i<=2/\v=.int .i64 i/\Below (R+1) w0 wr/\Hid ((0<i->AU 3 c.mx=true)/\(1<i->AU 3 c.my=true))) (fun v _=>2-(RowKit.intOf v).toNat)
    case atStart=>exact⟨0,by omega,rfl,B,Dl ⟨fun h=>absurd h (by omega),fun h=>absurd h (by omega)⟩⟩
    case round=>
     obtain⟨i,ae,rfl,f,H⟩:=hrel;obtain⟨-,-,c2,-,c4,c5⟩:=FL (g.out _ f).2;rw[M.out] at c2;rcases (by omega:i=0\/i=1\/i=2) with rfl|rfl|rfl
     ·by_cases l:c.mx < -32
      ·have D:decide (c.mx < -32)=true:=Gq l;have Z:Hid (z=false):=Dl (by rw[s.out,(show AU 3 c.mx=false by unfold AU;rw[show AE 3=true from rfl];exact Ez.2 (by omega))];simp);clear l
       go_wp2
       go_ret
       exact⟨AB Z.out.symm,by rw[q.out];exact a.trans ((f).mono (by omega))⟩
      have D:decide (c.mx < -32)=false:=Gp l;by_cases r:31<c.mx
      ·have I:decide (31<c.mx)=true:=Gq r;have Z:Hid (z=false):=Dl (by rw[s.out,(show AU 3 c.mx=false by unfold AU;rw[show AE 3=true from rfl];exact Ez.2 (by omega))];simp);clear l r
       go_wp2
       go_ret
       exact⟨AB Z.out.symm,by rw[q.out];exact a.trans ((f).mono (by omega))⟩
      have I:decide (31<c.mx)=false:=Gp r;by_cases t:c.mx=0
      ·have u2:(c.mx != 0)=false:=by simpa using t
       have J:Hid (AU 3 c.mx=true):=Dl (by unfold AU;rw[show AE 3=true from rfl,t];rfl);clear l r t
       go_wp2
       go_roundw
       case rel=>exact⟨0+1,by omega,by first|rfl|trivial,f,Dl ⟨fun _=>J.out,fun h=>absurd h (by omega)⟩⟩
       case measure=>simp[RowKit.intOf]
      ·have u2:(c.mx != 0)=true:=by simpa using t
       have Z:Hid (z=false):=Dl (by rw[s.out,(show AU 3 c.mx=false by unfold AU;rw[show AE 3=true from rfl];exact Ez.2 t)];simp);clear l r t
       go_wp2
       go_ret
       exact⟨AB Z.out.symm,by rw[q.out];exact a.trans ((f).mono (by omega))⟩
     ·by_cases l:c.my < -32
      ·have D:decide (c.my < -32)=true:=Gq l;have Z:Hid (z=false):=Dl (by rw[s.out,(show AU 3 c.my=false by unfold AU;rw[show AE 3=true from rfl];exact Ez.2 (by omega))];simp);clear l
       go_wp2
       go_ret
       exact⟨AB Z.out.symm,by rw[q.out];exact a.trans ((f).mono (by omega))⟩
      have D:decide (c.my < -32)=false:=Gp l;by_cases r:31<c.my
      ·have I:decide (31<c.my)=true:=Gq r;have Z:Hid (z=false):=Dl (by rw[s.out,(show AU 3 c.my=false by unfold AU;rw[show AE 3=true from rfl];exact Ez.2 (by omega))];simp);clear l r
       go_wp2
       go_ret
       exact⟨AB Z.out.symm,by rw[q.out];exact a.trans ((f).mono (by omega))⟩
      have I:decide (31<c.my)=false:=Gp r;by_cases t:c.my=0
      ·have u2:(c.my != 0)=false:=by simpa using t
       have J:Hid (AU 3 c.my=true):=Dl (by unfold AU;rw[show AE 3=true from rfl,t];rfl);clear l r t
       go_wp2
       go_roundw
       case rel=>exact⟨1+1,by omega,by first|rfl|trivial,f,Dl ⟨fun _=>H.out.1 (by omega),fun _=>J.out⟩⟩
       case measure=>simp[RowKit.intOf]
      ·have u2:(c.my != 0)=true:=by simpa using t
       have Z:Hid (z=false):=Dl (by rw[s.out,(show AU 3 c.my=false by unfold AU;rw[show AE 3=true from rfl];exact Ez.2 t)];simp);clear l r t
       go_wp2
       go_ret
       exact⟨AB Z.out.symm,by rw[q.out];exact a.trans ((f).mono (by omega))⟩
     ·have O:Hid (z=EE c):=Dl (by rw[s.out,H.out.1 (by omega),H.out.2 (by omega),G.out];rfl);clear c4 c5
      go_wp2
      go_loopw [6] (fun v K=>∃i:Nat,i<=6/\v=.int .i64 i/\Below (R+1) w0 K/\Hid (∀j,j<i->CI (AE 3) (c.dc j) (c.ev j)=true)) (fun v _=>6-(RowKit.intOf v).toNat)
      case atStart=>exact⟨0,by omega,rfl,f,Dl fun j h=>absurd h (Fc j)⟩
      case round=>
       clear f c2;obtain⟨i,af,rfl,f,P⟩:=hrel;obtain⟨-,-,c2,-,-,-⟩:=FL (g.out _ f).2;rw[M.out] at c2;by_cases d:i<6
       ·have t3:decide ((i:Int)<6)=true:=by simp;omega
        have d0:=A2 (o:=6+i) (g.out _ f).2 (IY c _ i d);have Q:=A2 (o:=12+i) (g.out _ f).2 (HM c (fun i=>.slice (p i) (n i) (k i)) i d);rw[Y.out i d] at Q;have hm:=X.out i d;have ag:=Dl (fun x (b:Below (R+1) w0 x)=>(M.out▸(FL (g.out x b).2).2.2.1:x.cell? ⟨R,2,none⟩=some (.int .i64 3)))
        have ah:=Dl (fun x (b:Below (R+1) w0 x)=>A2 (o:=6+i) (g.out x b).2 (IY c _ i d));have ai:=Dl (fun x (b:Below (R+1) w0 x)=>(by have h:=A2 (o:=12+i) (g.out x b).2 (HM c (fun i=>.slice (p i) (n i) (k i)) i d);rw[Y.out i d] at h;exact h:x.cell? ⟨R,12+i,none⟩=some (.slice (p i) (c.ev i).length (k i))))
        have aj:=Dl (fun x (b:Below (R+1) w0 x)=>((W x).mono fun e y h=>⟨h.1,h.2▸b⟩:A9 prog 52 #[.int .i64 3] x fun e y=>e=.returned (.bool (AE 3))/\Below (R+1) w0 y))
        have T:=Dl (fun x (b:Below (R+1) w0 x)=>((hm x (a.trans (b.mono (by omega)))).mono fun e y h=>⟨h.1,b.trans (h.2.mono (by have:=b.size;omega))⟩:A9 prog 123 #[.bool (AE 3),.int .i64 (c.dc i),.slice (p i) (c.ev i).length (k i)] x fun e y=>e=.returned (.bool (CI (AE 3) (c.dc i) (c.ev i)))/\Below (R+1) w0 y));have L:=f.drew;clear c2 d0 Q hm
        generalize m:CI (AE 3) (c.dc i) (c.ev i)=mb at T
        go_wp2
        refine BU (S:=fun x=>Below (R+1) w0 x) 13 (by kernel_rfl) (by kernel_rfl) L ?_;simp only[Dp,Bk,Gs,Gt];refine AJ ?_;simp only[A1];refine AR 3 _ ⟨R,2,none⟩ (.int .i64 3) (by kernel_rfl) rfl rfl (fun x b=>by have U:=ag.out x b;go_simp) ?_;simp only[A1];refine AY (by kernel_rfl) aj.out (fun _=>by kernel_rfl) ?_;simp only[A1]
        iterate 2 (refine AJ ?_;simp only[A1])
        refine AT (by kernel_rfl) (fun x _=>by go_simp;rw[Bc (by omega)]) ?_;simp only[A1];refine AR 3 _ ⟨R,6+i,none⟩ (.int .i64 (c.dc i)) (by kernel_rfl) rfl rfl (fun x b=>by have U:=ah.out x b;go_simp) ?_;simp only[A1]
        iterate 2 (refine AJ ?_;simp only[A1])
        refine AT (by kernel_rfl) (fun x _=>by go_simp;rw[Bc (by omega)]) ?_;simp only[A1];refine AR 72 _ ⟨R,12+i,none⟩ (.slice (p i) (c.ev i).length (k i)) (by kernel_rfl) rfl rfl (fun x b=>by have U:=ai.out x b;go_simp) ?_;simp only[A1];refine AY (by kernel_rfl) T.out (fun _=>by kernel_rfl) ?_;simp only[A1];refine AJ ?_;simp only[A1];refine BS fun x b=>?_;cases mb with
        |true=>
         have ak:=Dl m;clear m
         go_wp2
         go_roundw
         case rel=>exact⟨i+1,by omega,by go_num,b,Dl fun j hj=>(Gu.1 hj).elim (P.out j) fun h=>h▸ak.out⟩
         case measure=>simp[RowKit.intOf];omega
        |false=>
         have Z:Hid (z=false):=Dl (by rw[O.out];exact Nr.2 fun h=>by rw[aa.out.1 h i d] at m;cases m);clear m
         go_wp2
         go_ret
         exact⟨AB Z.out.symm,by rw[q.out];exact a.trans (b.mono (by omega))⟩
       ·obtain rfl:i=6:=by omega
        have Z:Hid (z=true):=Dl (by rw[O.out];exact aa.out.2 P.out)
        go_wp2
        go_ret
        exact⟨AB Z.out.symm,by rw[q.out];exact a.trans (f.mono (by omega))⟩
   ·have u:(c.step != 0)=true:=by simpa using hs
    have Z:Hid (z=false):=Dl (by rw[s.out,show EV 3 c.step=false from Ez.2 hs];rfl);clear hs
    go_enter Nu,Ns
    go_wp2
    go_ret
    exact⟨AB Z.out.symm,by rw[E.out,q.out];exact a⟩
  ·clear C;have aq:Hid (EV 4 c.step = !(CJ c.step).data.toList.isEmpty):=Dl rfl
   go_enter Nu,Ns
   go_wp2_with fail
   rw[E.out,q.out];refine(al _).mono ?_;rintro e w1 ⟨rfl,F⟩;rw[an] at F;have B:Below (R+1) w0 w1:=F;obtain⟨-,-,c2,c3,-,-⟩:=FL (g.out _ B).2;rw[M.out] at c2;have ue:(CJ c.step).data.toList.isEmpty=false->(CJ c.step).toList.isEmpty=false:=fun h=>by rcases PL.1 h with e|e|e|e <;> rw[e] <;> decide +kernel
   generalize CJ c.step=sr at *;cases hse:sr.data.toList.isEmpty
   ·have G:Hid (EV 4 c.step=true):=Dl (by rw[aq.out,hse];rfl);have u:=ue hse;clear hse ue
    go_wp2
    go_loopw [5] (fun v wr=>∃i:Nat,i<=2/\v=.int .i64 i/\Below (R+1) w0 wr/\Hid ((0<i->AU 4 c.mx=true)/\(1<i->AU 4 c.my=true))) (fun v _=>2-(RowKit.intOf v).toNat)
    case atStart=>exact⟨0,by omega,rfl,B,Dl ⟨fun h=>absurd h (by omega),fun h=>absurd h (by omega)⟩⟩
    case round=>
     obtain⟨i,ae,rfl,f,H⟩:=hrel;obtain⟨-,-,c2,-,c4,c5⟩:=FL (g.out _ f).2;rw[M.out] at c2;rcases (by omega:i=0\/i=1\/i=2) with rfl|rfl|rfl
     ·by_cases l:c.mx < -32
      ·have D:decide (c.mx < -32)=true:=Gq l;have Z:Hid (z=false):=Dl (by rw[s.out,(show AU 4 c.mx=false by unfold AU;rw[show AE 4=true from rfl];exact Ez.2 (by omega))];simp);clear l
       go_wp2
       go_ret
       exact⟨AB Z.out.symm,by rw[q.out];exact a.trans ((f).mono (by omega))⟩
      have D:decide (c.mx < -32)=false:=Gp l;by_cases r:31<c.mx
      ·have I:decide (31<c.mx)=true:=Gq r;have Z:Hid (z=false):=Dl (by rw[s.out,(show AU 4 c.mx=false by unfold AU;rw[show AE 4=true from rfl];exact Ez.2 (by omega))];simp);clear l r
       go_wp2
       go_ret
       exact⟨AB Z.out.symm,by rw[q.out];exact a.trans ((f).mono (by omega))⟩
      have I:decide (31<c.mx)=false:=Gp r;by_cases t:c.mx=0
      ·have u2:(c.mx != 0)=false:=by simpa using t
       have J:Hid (AU 4 c.mx=true):=Dl (by unfold AU;rw[show AE 4=true from rfl,t];rfl);clear l r t
       go_wp2
       go_roundw
       case rel=>exact⟨0+1,by omega,by first|rfl|trivial,f,Dl ⟨fun _=>J.out,fun h=>absurd h (by omega)⟩⟩
       case measure=>simp[RowKit.intOf]
      ·have u2:(c.mx != 0)=true:=by simpa using t
       have Z:Hid (z=false):=Dl (by rw[s.out,(show AU 4 c.mx=false by unfold AU;rw[show AE 4=true from rfl];exact Ez.2 t)];simp);clear l r t
       go_wp2
       go_ret
       exact⟨AB Z.out.symm,by rw[q.out];exact a.trans ((f).mono (by omega))⟩
     ·by_cases l:c.my < -32
      ·have D:decide (c.my < -32)=true:=Gq l;have Z:Hid (z=false):=Dl (by rw[s.out,(show AU 4 c.my=false by unfold AU;rw[show AE 4=true from rfl];exact Ez.2 (by omega))];simp);clear l
       go_wp2
       go_ret
       exact⟨AB Z.out.symm,by rw[q.out];exact a.trans ((f).mono (by omega))⟩
      have D:decide (c.my < -32)=false:=Gp l;by_cases r:31<c.my
      ·have I:decide (31<c.my)=true:=Gq r;have Z:Hid (z=false):=Dl (by rw[s.out,(show AU 4 c.my=false by unfold AU;rw[show AE 4=true from rfl];exact Ez.2 (by omega))];simp);clear l r
       go_wp2
       go_ret
       exact⟨AB Z.out.symm,by rw[q.out];exact a.trans ((f).mono (by omega))⟩
      have I:decide (31<c.my)=false:=Gp r;by_cases t:c.my=0
      ·have u2:(c.my != 0)=false:=by simpa using t
       have J:Hid (AU 4 c.my=true):=Dl (by unfold AU;rw[show AE 4=true from rfl,t];rfl);clear l r t
       go_wp2
       go_roundw
       case rel=>exact⟨1+1,by omega,by first|rfl|trivial,f,Dl ⟨fun _=>H.out.1 (by omega),fun _=>J.out⟩⟩
       case measure=>simp[RowKit.intOf]
      ·have u2:(c.my != 0)=true:=by simpa using t
       have Z:Hid (z=false):=Dl (by rw[s.out,(show AU 4 c.my=false by unfold AU;rw[show AE 4=true from rfl];exact Ez.2 t)];simp);clear l r t
       go_wp2
       go_ret
       exact⟨AB Z.out.symm,by rw[q.out];exact a.trans ((f).mono (by omega))⟩
     ·have O:Hid (z=EE c):=Dl (by rw[s.out,H.out.1 (by omega),H.out.2 (by omega),G.out];rfl);clear c4 c5
      go_wp2
      go_loopw [6] (fun v K=>∃i:Nat,i<=6/\v=.int .i64 i/\Below (R+1) w0 K/\Hid (∀j,j<i->CI (AE 4) (c.dc j) (c.ev j)=true)) (fun v _=>6-(RowKit.intOf v).toNat)
      case atStart=>exact⟨0,by omega,rfl,f,Dl fun j h=>absurd h (Fc j)⟩
      case round=>
       clear f c2;obtain⟨i,af,rfl,f,P⟩:=hrel;obtain⟨-,-,c2,-,-,-⟩:=FL (g.out _ f).2;rw[M.out] at c2;by_cases d:i<6
       ·have t3:decide ((i:Int)<6)=true:=by simp;omega
        have d0:=A2 (o:=6+i) (g.out _ f).2 (IY c _ i d);have Q:=A2 (o:=12+i) (g.out _ f).2 (HM c (fun i=>.slice (p i) (n i) (k i)) i d);rw[Y.out i d] at Q;have hm:=X.out i d;have ag:=Dl (fun x (b:Below (R+1) w0 x)=>(M.out▸(FL (g.out x b).2).2.2.1:x.cell? ⟨R,2,none⟩=some (.int .i64 4)))
        have ah:=Dl (fun x (b:Below (R+1) w0 x)=>A2 (o:=6+i) (g.out x b).2 (IY c _ i d));have ai:=Dl (fun x (b:Below (R+1) w0 x)=>(by have h:=A2 (o:=12+i) (g.out x b).2 (HM c (fun i=>.slice (p i) (n i) (k i)) i d);rw[Y.out i d] at h;exact h:x.cell? ⟨R,12+i,none⟩=some (.slice (p i) (c.ev i).length (k i))))
        have aj:=Dl (fun x (b:Below (R+1) w0 x)=>((W x).mono fun e y h=>⟨h.1,h.2▸b⟩:A9 prog 52 #[.int .i64 4] x fun e y=>e=.returned (.bool (AE 4))/\Below (R+1) w0 y))
        have T:=Dl (fun x (b:Below (R+1) w0 x)=>((hm x (a.trans (b.mono (by omega)))).mono fun e y h=>⟨h.1,b.trans (h.2.mono (by have:=b.size;omega))⟩:A9 prog 123 #[.bool (AE 4),.int .i64 (c.dc i),.slice (p i) (c.ev i).length (k i)] x fun e y=>e=.returned (.bool (CI (AE 4) (c.dc i) (c.ev i)))/\Below (R+1) w0 y));have L:=f.drew;clear c2 d0 Q hm
        generalize m:CI (AE 4) (c.dc i) (c.ev i)=mb at T
        go_wp2
        refine BU (S:=fun x=>Below (R+1) w0 x) 13 (by kernel_rfl) (by kernel_rfl) L ?_;simp only[Dp,Bk,Gs,Gt];refine AJ ?_;simp only[A1];refine AR 3 _ ⟨R,2,none⟩ (.int .i64 4) (by kernel_rfl) rfl rfl (fun x b=>by have U:=ag.out x b;go_simp) ?_;simp only[A1];refine AY (by kernel_rfl) aj.out (fun _=>by kernel_rfl) ?_;simp only[A1]
        iterate 2 (refine AJ ?_;simp only[A1])
        refine AT (by kernel_rfl) (fun x _=>by go_simp;rw[Bc (by omega)]) ?_;simp only[A1];refine AR 3 _ ⟨R,6+i,none⟩ (.int .i64 (c.dc i)) (by kernel_rfl) rfl rfl (fun x b=>by have U:=ah.out x b;go_simp) ?_;simp only[A1]
        iterate 2 (refine AJ ?_;simp only[A1])
        refine AT (by kernel_rfl) (fun x _=>by go_simp;rw[Bc (by omega)]) ?_;simp only[A1];refine AR 72 _ ⟨R,12+i,none⟩ (.slice (p i) (c.ev i).length (k i)) (by kernel_rfl) rfl rfl (fun x b=>by have U:=ai.out x b;go_simp) ?_;simp only[A1];refine AY (by kernel_rfl) T.out (fun _=>by kernel_rfl) ?_;simp only[A1];refine AJ ?_;simp only[A1];refine BS fun x b=>?_;cases mb with
        |true=>
         have ak:=Dl m;clear m
         go_wp2
         go_roundw
         case rel=>exact⟨i+1,by omega,by go_num,b,Dl fun j hj=>(Gu.1 hj).elim (P.out j) fun h=>h▸ak.out⟩
         case measure=>simp[RowKit.intOf];omega
        |false=>
         have Z:Hid (z=false):=Dl (by rw[O.out];exact Nr.2 fun h=>by rw[aa.out.1 h i d] at m;cases m);clear m
         go_wp2
         go_ret
         exact⟨AB Z.out.symm,by rw[q.out];exact a.trans (b.mono (by omega))⟩
       ·obtain rfl:i=6:=by omega
        have Z:Hid (z=true):=Dl (by rw[O.out];exact aa.out.2 P.out)
        go_wp2
        go_ret
        exact⟨AB Z.out.symm,by rw[q.out];exact a.trans (f.mono (by omega))⟩
   ·have Z:Hid (z=false):=Dl (by rw[s.out,aq.out,hse];rfl);have D:sr=⟨#[]⟩:=by
     have h:=List.isEmpty_iff.1 hse;exact PM.2 h
    subst D;clear hse c3
    go_wp2
    go_ret
    exact⟨AB Z.out.symm,by rw[q.out];exact a.trans (B.mono (by omega))⟩
  ·obtain rfl:inter=true:=by cases inter with|true=>rfl|false=>exact absurd (C rfl) (by simp)
   clear C;by_cases hs:c.step=0
   ·have u:(c.step != 0)=false:=by simpa using hs
    have G:Hid (EV 0 c.step=true):=Dl (by rw[hs];rfl);have B:Below (R+1) w0 w0:=Dm _ _;clear hs
    go_enter Nu,Ns
    go_wp2
    rw[E.out,q.out]
    go_loopw [5] (fun v wr=>∃i:Nat,i<=2/\v=.int .i64 i/\Below (R+1) w0 wr/\Hid ((0<i->AU 0 c.mx=true)/\(1<i->AU 0 c.my=true))) (fun v _=>2-(RowKit.intOf v).toNat)
    case atStart=>exact⟨0,by omega,rfl,B,Dl ⟨fun h=>absurd h (by omega),fun h=>absurd h (by omega)⟩⟩
    case round=>
     obtain⟨i,ae,rfl,f,H⟩:=hrel;obtain⟨-,-,c2,-,c4,c5⟩:=FL (g.out _ f).2;rw[M.out] at c2;rcases (by omega:i=0\/i=1\/i=2) with rfl|rfl|rfl
     ·by_cases l:c.mx < -32
      ·have D:decide (c.mx < -32)=true:=Gq l;have Z:Hid (z=false):=Dl (by rw[s.out,(show AU 0 c.mx=false by unfold AU;rw[show AE 0=false from rfl];exact Ez.2 (fun h=>by have:=JL c.mx;omega))];simp);clear l
       go_wp2
       go_ret
       exact⟨AB Z.out.symm,by rw[q.out];exact a.trans ((f).mono (by omega))⟩
      have D:decide (c.mx < -32)=false:=Gp l;by_cases r:31<c.mx
      ·have I:decide (31<c.mx)=true:=Gq r;have Z:Hid (z=false):=Dl (by rw[s.out,(show AU 0 c.mx=false by unfold AU;rw[show AE 0=false from rfl];exact Ez.2 (fun h=>by have:=JL c.mx;omega))];simp);clear l r
       go_wp2
       go_ret
       exact⟨AB Z.out.symm,by rw[q.out];exact a.trans ((f).mono (by omega))⟩
      have I:decide (31<c.mx)=false:=Gp r;have J:Hid (AU 0 c.mx=true):=Dl (by unfold AU;rw[show AE 0=false from rfl];exact Bm.2 (MG.2 ⟨by omega,by omega⟩));clear l r
      go_wp2
      go_roundw
      case rel=>exact⟨0+1,by omega,by first|rfl|trivial,f,Dl ⟨fun _=>J.out,fun h=>absurd h (by omega)⟩⟩
      case measure=>simp[RowKit.intOf]
     ·by_cases l:c.my < -32
      ·have D:decide (c.my < -32)=true:=Gq l;have Z:Hid (z=false):=Dl (by rw[s.out,(show AU 0 c.my=false by unfold AU;rw[show AE 0=false from rfl];exact Ez.2 (fun h=>by have:=JL c.my;omega))];simp);clear l
       go_wp2
       go_ret
       exact⟨AB Z.out.symm,by rw[q.out];exact a.trans ((f).mono (by omega))⟩
      have D:decide (c.my < -32)=false:=Gp l;by_cases r:31<c.my
      ·have I:decide (31<c.my)=true:=Gq r;have Z:Hid (z=false):=Dl (by rw[s.out,(show AU 0 c.my=false by unfold AU;rw[show AE 0=false from rfl];exact Ez.2 (fun h=>by have:=JL c.my;omega))];simp);clear l r
       go_wp2
       go_ret
       exact⟨AB Z.out.symm,by rw[q.out];exact a.trans ((f).mono (by omega))⟩
      have I:decide (31<c.my)=false:=Gp r;have J:Hid (AU 0 c.my=true):=Dl (by unfold AU;rw[show AE 0=false from rfl];exact Bm.2 (MG.2 ⟨by omega,by omega⟩));clear l r
      go_wp2
      go_roundw
      case rel=>exact⟨1+1,by omega,by first|rfl|trivial,f,Dl ⟨fun _=>H.out.1 (by omega),fun _=>J.out⟩⟩
      case measure=>simp[RowKit.intOf]
     ·have O:Hid (z=EE c):=Dl (by rw[s.out,H.out.1 (by omega),H.out.2 (by omega),G.out];rfl);clear c4 c5
      go_wp2
      go_loopw [6] (fun v K=>∃i:Nat,i<=6/\v=.int .i64 i/\Below (R+1) w0 K/\Hid (∀j,j<i->CI (AE 0) (c.dc j) (c.ev j)=true)) (fun v _=>6-(RowKit.intOf v).toNat)
      case atStart=>exact⟨0,by omega,rfl,f,Dl fun j h=>absurd h (Fc j)⟩
      case round=>
       clear f c2;obtain⟨i,af,rfl,f,P⟩:=hrel;obtain⟨-,-,c2,-,-,-⟩:=FL (g.out _ f).2;rw[M.out] at c2;by_cases d:i<6
       ·have t3:decide ((i:Int)<6)=true:=by simp;omega
        have d0:=A2 (o:=6+i) (g.out _ f).2 (IY c _ i d);have Q:=A2 (o:=12+i) (g.out _ f).2 (HM c (fun i=>.slice (p i) (n i) (k i)) i d);rw[Y.out i d] at Q;have hm:=X.out i d;have ag:=Dl (fun x (b:Below (R+1) w0 x)=>(M.out▸(FL (g.out x b).2).2.2.1:x.cell? ⟨R,2,none⟩=some (.int .i64 0)))
        have ah:=Dl (fun x (b:Below (R+1) w0 x)=>A2 (o:=6+i) (g.out x b).2 (IY c _ i d));have ai:=Dl (fun x (b:Below (R+1) w0 x)=>(by have h:=A2 (o:=12+i) (g.out x b).2 (HM c (fun i=>.slice (p i) (n i) (k i)) i d);rw[Y.out i d] at h;exact h:x.cell? ⟨R,12+i,none⟩=some (.slice (p i) (c.ev i).length (k i))))
        have aj:=Dl (fun x (b:Below (R+1) w0 x)=>((W x).mono fun e y h=>⟨h.1,h.2▸b⟩:A9 prog 52 #[.int .i64 0] x fun e y=>e=.returned (.bool (AE 0))/\Below (R+1) w0 y))
        have T:=Dl (fun x (b:Below (R+1) w0 x)=>((hm x (a.trans (b.mono (by omega)))).mono fun e y h=>⟨h.1,b.trans (h.2.mono (by have:=b.size;omega))⟩:A9 prog 123 #[.bool (AE 0),.int .i64 (c.dc i),.slice (p i) (c.ev i).length (k i)] x fun e y=>e=.returned (.bool (CI (AE 0) (c.dc i) (c.ev i)))/\Below (R+1) w0 y));have L:=f.drew;clear c2 d0 Q hm
        generalize m:CI (AE 0) (c.dc i) (c.ev i)=mb at T
        go_wp2
        refine BU (S:=fun x=>Below (R+1) w0 x) 13 (by kernel_rfl) (by kernel_rfl) L ?_;simp only[Dp,Bk,Gs,Gt];refine AJ ?_;simp only[A1];refine AR 3 _ ⟨R,2,none⟩ (.int .i64 0) (by kernel_rfl) rfl rfl (fun x b=>by have U:=ag.out x b;go_simp) ?_;simp only[A1];refine AY (by kernel_rfl) aj.out (fun _=>by kernel_rfl) ?_;simp only[A1]
        iterate 2 (refine AJ ?_;simp only[A1])
        refine AT (by kernel_rfl) (fun x _=>by go_simp;rw[Bc (by omega)]) ?_;simp only[A1];refine AR 3 _ ⟨R,6+i,none⟩ (.int .i64 (c.dc i)) (by kernel_rfl) rfl rfl (fun x b=>by have U:=ah.out x b;go_simp) ?_;simp only[A1]
        iterate 2 (refine AJ ?_;simp only[A1])
        refine AT (by kernel_rfl) (fun x _=>by go_simp;rw[Bc (by omega)]) ?_;simp only[A1];refine AR 72 _ ⟨R,12+i,none⟩ (.slice (p i) (c.ev i).length (k i)) (by kernel_rfl) rfl rfl (fun x b=>by have U:=ai.out x b;go_simp) ?_;simp only[A1];refine AY (by kernel_rfl) T.out (fun _=>by kernel_rfl) ?_;simp only[A1];refine AJ ?_;simp only[A1];refine BS fun x b=>?_;cases mb with
        |true=>
         have ak:=Dl m;clear m
         go_wp2
         go_roundw
         case rel=>exact⟨i+1,by omega,by go_num,b,Dl fun j hj=>(Gu.1 hj).elim (P.out j) fun h=>h▸ak.out⟩
         case measure=>simp[RowKit.intOf];omega
        |false=>
         have Z:Hid (z=false):=Dl (by rw[O.out];exact Nr.2 fun h=>by rw[aa.out.1 h i d] at m;cases m);clear m
         go_wp2
         go_ret
         exact⟨AB Z.out.symm,by rw[q.out];exact a.trans (b.mono (by omega))⟩
       ·obtain rfl:i=6:=by omega
        have Z:Hid (z=true):=Dl (by rw[O.out];exact aa.out.2 P.out)
        go_wp2
        go_ret
        exact⟨AB Z.out.symm,by rw[q.out];exact a.trans (f.mono (by omega))⟩
   ·have u:(c.step != 0)=true:=by simpa using hs
    have Z:Hid (z=false):=Dl (by rw[s.out,show EV 0 c.step=false from Ez.2 hs];rfl);clear hs
    go_enter Nu,Ns
    go_wp2
    go_ret
    exact⟨AB Z.out.symm,by rw[E.out,q.out];exact a⟩
  ·obtain rfl:inter=true:=by cases inter with|true=>rfl|false=>exact absurd (C rfl) (by simp)
   clear C;have aq:Hid (EV 1 c.step = !(CJ c.step).data.toList.isEmpty):=Dl rfl
   go_enter Nu,Ns
   go_wp2_with fail
   rw[E.out,q.out];refine(al _).mono ?_;rintro e w1 ⟨rfl,F⟩;rw[an] at F;have B:Below (R+1) w0 w1:=F;obtain⟨-,-,c2,c3,-,-⟩:=FL (g.out _ B).2;rw[M.out] at c2;have ue:(CJ c.step).data.toList.isEmpty=false->(CJ c.step).toList.isEmpty=false:=fun h=>by rcases PL.1 h with e|e|e|e <;> rw[e] <;> decide +kernel
   generalize CJ c.step=sr at *;cases hse:sr.data.toList.isEmpty
   ·have G:Hid (EV 1 c.step=true):=Dl (by rw[aq.out,hse];rfl);have u:=ue hse;clear hse ue
    go_wp2
    go_loopw [5] (fun v wr=>∃i:Nat,i<=2/\v=.int .i64 i/\Below (R+1) w0 wr/\Hid ((0<i->AU 1 c.mx=true)/\(1<i->AU 1 c.my=true))) (fun v _=>2-(RowKit.intOf v).toNat)
    case atStart=>exact⟨0,by omega,rfl,B,Dl ⟨fun h=>absurd h (by omega),fun h=>absurd h (by omega)⟩⟩
    case round=>
     obtain⟨i,ae,rfl,f,H⟩:=hrel;obtain⟨-,-,c2,-,c4,c5⟩:=FL (g.out _ f).2;rw[M.out] at c2;rcases (by omega:i=0\/i=1\/i=2) with rfl|rfl|rfl
     ·by_cases l:c.mx < -32
      ·have D:decide (c.mx < -32)=true:=Gq l;have Z:Hid (z=false):=Dl (by rw[s.out,(show AU 1 c.mx=false by unfold AU;rw[show AE 1=false from rfl];exact Ez.2 (fun h=>by have:=JL c.mx;omega))];simp);clear l
       go_wp2
       go_ret
       exact⟨AB Z.out.symm,by rw[q.out];exact a.trans ((f).mono (by omega))⟩
      have D:decide (c.mx < -32)=false:=Gp l;by_cases r:31<c.mx
      ·have I:decide (31<c.mx)=true:=Gq r;have Z:Hid (z=false):=Dl (by rw[s.out,(show AU 1 c.mx=false by unfold AU;rw[show AE 1=false from rfl];exact Ez.2 (fun h=>by have:=JL c.mx;omega))];simp);clear l r
       go_wp2
       go_ret
       exact⟨AB Z.out.symm,by rw[q.out];exact a.trans ((f).mono (by omega))⟩
      have I:decide (31<c.mx)=false:=Gp r;have J:Hid (AU 1 c.mx=true):=Dl (by unfold AU;rw[show AE 1=false from rfl];exact Bm.2 (MG.2 ⟨by omega,by omega⟩));clear l r
      go_wp2
      go_roundw
      case rel=>exact⟨0+1,by omega,by first|rfl|trivial,f,Dl ⟨fun _=>J.out,fun h=>absurd h (by omega)⟩⟩
      case measure=>simp[RowKit.intOf]
     ·by_cases l:c.my < -32
      ·have D:decide (c.my < -32)=true:=Gq l;have Z:Hid (z=false):=Dl (by rw[s.out,(show AU 1 c.my=false by unfold AU;rw[show AE 1=false from rfl];exact Ez.2 (fun h=>by have:=JL c.my;omega))];simp);clear l
       go_wp2
       go_ret
       exact⟨AB Z.out.symm,by rw[q.out];exact a.trans ((f).mono (by omega))⟩
      have D:decide (c.my < -32)=false:=Gp l;by_cases r:31<c.my
      ·have I:decide (31<c.my)=true:=Gq r;have Z:Hid (z=false):=Dl (by rw[s.out,(show AU 1 c.my=false by unfold AU;rw[show AE 1=false from rfl];exact Ez.2 (fun h=>by have:=JL c.my;omega))];simp);clear l r
       go_wp2
       go_ret
       exact⟨AB Z.out.symm,by rw[q.out];exact a.trans ((f).mono (by omega))⟩
      have I:decide (31<c.my)=false:=Gp r;have J:Hid (AU 1 c.my=true):=Dl (by unfold AU;rw[show AE 1=false from rfl];exact Bm.2 (MG.2 ⟨by omega,by omega⟩));clear l r
      go_wp2
      go_roundw
      case rel=>exact⟨1+1,by omega,by first|rfl|trivial,f,Dl ⟨fun _=>H.out.1 (by omega),fun _=>J.out⟩⟩
      case measure=>simp[RowKit.intOf]
     ·have O:Hid (z=EE c):=Dl (by rw[s.out,H.out.1 (by omega),H.out.2 (by omega),G.out];rfl);clear c4 c5
      go_wp2
      go_loopw [6] (fun v K=>∃i:Nat,i<=6/\v=.int .i64 i/\Below (R+1) w0 K/\Hid (∀j,j<i->CI (AE 1) (c.dc j) (c.ev j)=true)) (fun v _=>6-(RowKit.intOf v).toNat)
      case atStart=>exact⟨0,by omega,rfl,f,Dl fun j h=>absurd h (Fc j)⟩
      case round=>
       clear f c2;obtain⟨i,af,rfl,f,P⟩:=hrel;obtain⟨-,-,c2,-,-,-⟩:=FL (g.out _ f).2;rw[M.out] at c2;by_cases d:i<6
       ·have t3:decide ((i:Int)<6)=true:=by simp;omega
        have d0:=A2 (o:=6+i) (g.out _ f).2 (IY c _ i d);have Q:=A2 (o:=12+i) (g.out _ f).2 (HM c (fun i=>.slice (p i) (n i) (k i)) i d);rw[Y.out i d] at Q;have hm:=X.out i d;have ag:=Dl (fun x (b:Below (R+1) w0 x)=>(M.out▸(FL (g.out x b).2).2.2.1:x.cell? ⟨R,2,none⟩=some (.int .i64 1)))
        have ah:=Dl (fun x (b:Below (R+1) w0 x)=>A2 (o:=6+i) (g.out x b).2 (IY c _ i d));have ai:=Dl (fun x (b:Below (R+1) w0 x)=>(by have h:=A2 (o:=12+i) (g.out x b).2 (HM c (fun i=>.slice (p i) (n i) (k i)) i d);rw[Y.out i d] at h;exact h:x.cell? ⟨R,12+i,none⟩=some (.slice (p i) (c.ev i).length (k i))))
        have aj:=Dl (fun x (b:Below (R+1) w0 x)=>((W x).mono fun e y h=>⟨h.1,h.2▸b⟩:A9 prog 52 #[.int .i64 1] x fun e y=>e=.returned (.bool (AE 1))/\Below (R+1) w0 y))
        have T:=Dl (fun x (b:Below (R+1) w0 x)=>((hm x (a.trans (b.mono (by omega)))).mono fun e y h=>⟨h.1,b.trans (h.2.mono (by have:=b.size;omega))⟩:A9 prog 123 #[.bool (AE 1),.int .i64 (c.dc i),.slice (p i) (c.ev i).length (k i)] x fun e y=>e=.returned (.bool (CI (AE 1) (c.dc i) (c.ev i)))/\Below (R+1) w0 y));have L:=f.drew;clear c2 d0 Q hm
        generalize m:CI (AE 1) (c.dc i) (c.ev i)=mb at T
        go_wp2
        refine BU (S:=fun x=>Below (R+1) w0 x) 13 (by kernel_rfl) (by kernel_rfl) L ?_;simp only[Dp,Bk,Gs,Gt];refine AJ ?_;simp only[A1];refine AR 3 _ ⟨R,2,none⟩ (.int .i64 1) (by kernel_rfl) rfl rfl (fun x b=>by have U:=ag.out x b;go_simp) ?_;simp only[A1];refine AY (by kernel_rfl) aj.out (fun _=>by kernel_rfl) ?_;simp only[A1]
        iterate 2 (refine AJ ?_;simp only[A1])
        refine AT (by kernel_rfl) (fun x _=>by go_simp;rw[Bc (by omega)]) ?_;simp only[A1];refine AR 3 _ ⟨R,6+i,none⟩ (.int .i64 (c.dc i)) (by kernel_rfl) rfl rfl (fun x b=>by have U:=ah.out x b;go_simp) ?_;simp only[A1]
        iterate 2 (refine AJ ?_;simp only[A1])
        refine AT (by kernel_rfl) (fun x _=>by go_simp;rw[Bc (by omega)]) ?_;simp only[A1];refine AR 72 _ ⟨R,12+i,none⟩ (.slice (p i) (c.ev i).length (k i)) (by kernel_rfl) rfl rfl (fun x b=>by have U:=ai.out x b;go_simp) ?_;simp only[A1];refine AY (by kernel_rfl) T.out (fun _=>by kernel_rfl) ?_;simp only[A1];refine AJ ?_;simp only[A1];refine BS fun x b=>?_;cases mb with
        |true=>
         have ak:=Dl m;clear m
         go_wp2
         go_roundw
         case rel=>exact⟨i+1,by omega,by go_num,b,Dl fun j hj=>(Gu.1 hj).elim (P.out j) fun h=>h▸ak.out⟩
         case measure=>simp[RowKit.intOf];omega
        |false=>
         have Z:Hid (z=false):=Dl (by rw[O.out];exact Nr.2 fun h=>by rw[aa.out.1 h i d] at m;cases m);clear m
         go_wp2
         go_ret
         exact⟨AB Z.out.symm,by rw[q.out];exact a.trans (b.mono (by omega))⟩
       ·obtain rfl:i=6:=by omega
        have Z:Hid (z=true):=Dl (by rw[O.out];exact aa.out.2 P.out)
        go_wp2
        go_ret
        exact⟨AB Z.out.symm,by rw[q.out];exact a.trans (f.mono (by omega))⟩
   ·have Z:Hid (z=false):=Dl (by rw[s.out,aq.out,hse];rfl);have D:sr=⟨#[]⟩:=by
     have h:=List.isEmpty_iff.1 hse;exact PM.2 h
    subst D;clear hse c3
    go_wp2
    go_ret
    exact⟨AB Z.out.symm,by rw[q.out];exact a.trans (B.mono (by omega))⟩
end Go.Proofs.YtjjmalchelniiaaGreatDoor