/- StripsWrites, 41. No condition. -/
import Derived.Test.YtjjmalchelniiaaGreatDoorStripsWritesMa
import Derived.Test.YtjjmalchelniiaaGreatDoorStripsWritesMr
import Derived.Test.YtjjmalchelniiaaGreatDoorStripsWritesMw
import Derived.Test.YtjjmalchelniiaaGreatDoorStripsWritesMbk
import Derived.Test.YtjjmalchelniiaaGreatDoorStripsWritesMbn
open Go.Proofs.Tryz
open Go renaming Calls->A9
set_option maxHeartbeats 2000000
namespace Go.Proofs.YtjjmalchelniiaaGreatDoor
open Go.RowKit Go.Lib
abbrev Nl:=@List.drop_succ_cons
abbrev Nn:=@List.drop_zero
abbrev Np:=@trivial
abbrev Nq:=@Bool.eq_false_iff
abbrev Nr:=@Nat.lt_succ_iff_lt_or_eq
abbrev Ns:=@ntmps86
abbrev Nt:=@func86
theorem qQ {c:Cel}:FY c=true↔(c.kind=0/\c.step=0/\c.mx=0/\c.my=0)/\∀i,i<6->c.dc i=0/\(c.ev i).length=0:=by
 unfold FY;simp only[Al,Bm,Bu,Bt,Au];constructor
 ·rintro⟨⟨⟨h1,h2⟩,h3,h4⟩,a,b⟩;exact⟨⟨h1,h2,h3,h4⟩,fun i hi=>⟨a i hi,b i hi⟩⟩
 ·rintro⟨⟨h1,h2,h3,h4⟩,a⟩;exact⟨⟨⟨h1,h2⟩,h3,h4⟩,fun i hi=>(a i hi).1,fun i hi=>(a i hi).2⟩
set_option maxRecDepth 100000 in
theorem qR (c:Cel)(p:Nat->Option Addr)(n k:Nat->Nat)(w:World)(hc:GZ w c p n):A9 prog 122 #[.agg (AJ c fun i=>.slice (p i) (n i) (k i)).toArray] w fun e t=>e=.returned (.bool (FY c))/\Below w.heap.size w t:=by
 obtain⟨A,q,f0,f1,f2,f3,f4,f5,⟨f6,f7,f8,f9,f10,f11⟩,f12,f13,f14,f15,f16,f17⟩:=JL c fun i=>.slice (p i) (n i) (k i);obtain⟨R,w0,s,l,u,a,v,m⟩:=ND w q;have b:=(m w0 (Dq _ _)).2;obtain⟨-,-,c2,c3,c4,F⟩:=FL b;have x:=Dp (fun i (hi:i<6)=>AA (o:=6+i) b (JM c _ i hi))
 have y:=Dp (fun i (hi:i<6)=>AA (o:=12+i) b (JZ c (fun i=>.slice (p i) (n i) (k i)) i hi));have B:=Dp (fun i hi=>(hc i hi).1);have g:=Dp (qQ (c:=c));rw[q];have C:=Dp l;have f:=Dp s;clear q l s m b hc f0 f1 f2 f3 f4 f5 f6 f7 f8 f9 f10 f11 f12 f13 f14 f15 f16 f17
 go_enter func122,ntmps122
 go_wp2
 rw[C.out,f.out]
 go_loopw [3] (fun z wr=>∃i:Nat,i<=6/\z=.int .i64 i/\wr=w0/\Hid (∀j,j<i->c.dc j=0/\(c.ev j).length=0)) (fun z _=>6-(RowKit.intOf z).toNat)
 case atStart=>exact⟨0,by omega,rfl,rfl,Dp fun j h=>absurd h (Fk j)⟩
 case round=>
  obtain⟨i,D,rfl,rfl,zs⟩:=hrel;by_cases d:i<6
  ·have t0:decide ((i:Int)<6)=true:=by simp;omega
   have G:=y.out i d;have d0:=x.out i d;have r:=B.out i d;by_cases hn:0<n i
   ·have t1:decide (0<n i)=true:=Kn hn;have t2:decide (0<(n i:Int))=true:=Kn (by omega);have Z:Hid (FY c=false):=Dp (Nq.2 fun h=>by have h2:=((g.out.1 h).2 i d).2;omega);clear hn r
    go_wp2
    go_ret
    exact⟨AH Z.out.symm,by rw[f.out];exact a⟩
   ·have t1:decide (0<n i)=false:=Km hn;have t2:decide (0<(n i:Int))=false:=Km (by omega);by_cases hd:c.dc i=0
    ·have t3:(c.dc i != 0)=false:=by simpa using hd
     have E:=Dp (⟨hd,by omega⟩:c.dc i=0/\(c.ev i).length=0);clear hn r hd
     go_wp2
     go_roundw
     case rel=>exact⟨i+1,by omega,by go_num,by trivial,Dp fun j hj=>(Nr.1 hj).elim (zs.out j) fun h=>h▸E.out⟩
     case measure=>simp[RowKit.intOf];omega
    ·have t3:(c.dc i != 0)=true:=by simpa using hd
     have Z:Hid (FY c=false):=Dp (Nq.2 fun h=>hd ((g.out.1 h).2 i d).1);clear hn r hd
     go_wp2
     go_ret
     exact⟨AH Z.out.symm,by rw[f.out];exact a⟩
  ·obtain rfl:i=6:=by omega
   cases t1:(c.kind==0) with
   |false=>
    go_wp2
    go_ret
    exact⟨AH (Nq.2 fun h=>by have h2:=(g.out.1 h).1;rw[Fg] at t1;exact t1 h2.1).symm,by rw[f.out];exact a⟩
   |true=>
    cases t2:(c.step==0) with
    |false=>
     go_wp2
     go_ret
     exact⟨AH (Nq.2 fun h=>by have h2:=(g.out.1 h).1;rw[Fg] at t2;exact t2 h2.2.1).symm,by rw[f.out];exact a⟩
    |true=>
     cases t3:(c.mx==0) with
     |false=>
      go_wp2
      go_ret
      exact⟨AH (Nq.2 fun h=>by have h2:=(g.out.1 h).1;rw[Fg] at t3;exact t3 h2.2.2.1).symm,by rw[f.out];exact a⟩
     |true=>
      cases t4:(c.my==0) with
      |false=>
       go_wp2
       go_ret
       exact⟨AH (Nq.2 fun h=>by have h2:=(g.out.1 h).1;rw[Fg] at t4;exact t4 h2.2.2.2).symm,by rw[f.out];exact a⟩
      |true=>
       go_wp2
       go_ret
       exact⟨AH (g.out.2 ⟨⟨by simpa using t1,by simpa using t2,by simpa using t3,by simpa using t4⟩,zs.out⟩).symm,by rw[f.out];exact a⟩
def AW (k m:Int):Bool:=if AD k then m==0 else m==AF m
theorem fU (k mx my:Int):HJ k mx my=(AW k mx&&AW k my):=by
 unfold HJ AW
 split <;> rfl
set_option maxRecDepth 100000 in
theorem zL (inter:Bool)(c:Cel)(p:Nat->Option Addr)(n k:Nat->Nat)(w:World)(hc:GZ w c p n):A9 prog 86 #[.bool inter,.agg (AJ c fun i=>.slice (p i) (n i) (k i)).toArray] w fun e w'=>e=.returned (.bool (BL inter c))/\Below w.heap.size w w':=by
 have V:=fun x (b:Below w.heap.size w x)=>qR c p n k x (hc.below b);have al:=fun x=>ZP c.step x;have W:=fun x=>Ul c.kind x;have ab:=fun i (hi:i<6) x (b:Below w.heap.size w x)=>dL (AD c.kind) (c.dc i) (p i) (c.ev i) (k i) x ((hc i hi).2.2.below b) (by have:=(hc i hi).1;have:=(hc i hi).2.1;omega);have Y:=Dp (fun i hi=>(hc i hi).1)
 obtain⟨A,hA,f0,f1,f2,f3,f4,f5,-,-⟩:=JL c fun i=>.slice (p i) (n i) (k i);obtain⟨R,w0,hR,am,an,a,au,ao⟩:=ND w hA;simp only[hA] at V;rw[hR] at V ab;rw[hA];have E:=Dp am;have q:=Dp hR;have g:=Dp ao;have av:=Dp V;have X:=Dp ab
 have N:Hid (BL inter c=((decide (0<=c.stuff)&&decide (c.stuff<=64))&&(if c.skip then inter&&FY c else (EJ inter c.kind&&FA c.kind c.step)&&(AW c.kind c.mx&&AW c.kind c.my&&EY c)))):=Dp (by rw[<-fU];rfl);have aa:=Dp (NV (c:=c));clear hA am hR ao V ab hc;generalize BL inter c=z at *;by_cases h0:c.stuff<0
 ·have t0:decide (c.stuff<0)=true:=Kn h0;have Z:=Dp (show z=false by rw[N.out,Km (by omega:¬ 0<=c.stuff)];rfl);clear h0 N
  go_enter Nt,Ns
  go_wp2
  go_ret
  exact⟨AH Z.out.symm,by rw[E.out,q.out];exact a⟩
 by_cases h1:64<c.stuff
 ·have t0:decide (c.stuff<0)=false:=Km h0;have t1:decide (64<c.stuff)=true:=Kn h1;have Z:=Dp (show z=false by rw[N.out,Km (by omega:¬ c.stuff<=64),Jw];rfl);clear h0 h1 N
  go_enter Nt,Ns
  go_wp2
  go_ret
  exact⟨AH Z.out.symm,by rw[E.out,q.out];exact a⟩
 have t0:decide (c.stuff<0)=false:=Km h0;have t1:decide (64<c.stuff)=false:=Km h1;rw[Kn (by omega:0<=c.stuff),Kn (by omega:c.stuff<=64)] at N;clear h0 h1;cases hsk:c.skip with
 |true=>
  rw[hsk] at N f1;cases inter with
  |false=>
   have Z:=Dp (show z=false by rw[N.out];rfl)
   go_enter Nt,Ns
   go_wp2
   go_ret
   exact⟨AH Z.out.symm,by rw[E.out,q.out];exact a⟩
  |true=>
   have Z:=Dp (show z=FY c by rw[N.out];rfl)
   go_enter Nt,Ns
   go_wp2_with (with_reducible refine NI (by kernel_rfl) 77 _ rfl w.heap.size rfl 77 A (0,0) _ (heap_alloc_new w _) N0 rfl au ?_)
   rw[E.out,q.out];refine(av.out _ a).mono ?_;rintro e w1 ⟨rfl,F⟩;have aw:=a.trans (F.mono (by omega))
   go_wp2
   go_ret
   exact⟨AH Z.out.symm,by rw[q.out];exact aw⟩
 |false=>
  rw[hsk] at N f1;have ar:=Dp (show z=((EJ inter c.kind&&FA c.kind c.step)&&(AW c.kind c.mx&&AW c.kind c.my&&EY c)) by rw[N.out];rfl);clear N;generalize ap:c.kind=kd at *;have M:=Dp ap;clear ap;have bad:∀(h:EJ inter kd=false),Hid (z=false):=fun h=>Dp (by rw[ar.out,h];rfl);by_cases k0:kd<0
  ·have s0:decide (kd<0)=true:=Kn k0;have Z:=bad (by unfold EJ;rw[Fg.2 (by omega:kd≠3),Fg.2 (by omega:kd≠4),Fg.2 (by omega:kd≠0),Fg.2 (by omega:kd≠1)];cases inter <;> rfl);clear k0 bad
   go_enter Nt,Ns
   go_wp2
   go_ret
   exact⟨AH Z.out.symm,by rw[E.out,q.out];exact a⟩
  by_cases k4:4<kd
  ·have s0:decide (kd<0)=false:=Km k0;have s1:decide (4<kd)=true:=Kn k4;have Z:=bad (by unfold EJ;rw[Fg.2 (by omega:kd≠3),Fg.2 (by omega:kd≠4),Fg.2 (by omega:kd≠0),Fg.2 (by omega:kd≠1)];cases inter <;> rfl);clear k0 k4 bad
   go_enter Nt,Ns
   go_wp2
   go_ret
   exact⟨AH Z.out.symm,by rw[E.out,q.out];exact a⟩
  have ac:kd=2\/((kd=0\/kd=1)/\inter=false)\/((kd=3\/kd=4\/kd=0\/kd=1)/\EJ inter kd=true):=by
   rcases (by omega:kd=0\/kd=1\/kd=2\/kd=3\/kd=4) with rfl|rfl|rfl|rfl|rfl <;> cases inter <;> simp[EJ]
  clear k0 k4;rcases ac with rfl|⟨rfl|rfl,rfl⟩|⟨ac,ad⟩
  ·have Z:=bad (by cases inter <;> rfl);clear bad
   go_enter Nt,Ns
   go_wp2
   go_ret
   exact⟨AH Z.out.symm,by rw[E.out,q.out];exact a⟩
  ·have Z:=bad rfl;clear bad
   go_enter Nt,Ns
   go_wp2
   go_ret
   exact⟨AH Z.out.symm,by rw[E.out,q.out];exact a⟩
  ·have Z:=bad rfl;clear bad
   go_enter Nt,Ns
   go_wp2
   go_ret
   exact⟨AH Z.out.symm,by rw[E.out,q.out];exact a⟩
  rw[ad] at ar;have s:=Dp (show z=(FA kd c.step&&(AW kd c.mx&&AW kd c.my&&EY c)) by rw[ar.out,Gr]);have C:inter=false->¬ (kd=0\/kd=1):=fun h e=>by subst h;rcases e with rfl|rfl <;> simp[EJ] at ad
  clear bad ar ad;rcases ac with rfl|rfl|rfl|rfl
  ·clear C;by_cases hs:c.step=0
   ·have u:(c.step != 0)=false:=by simpa using hs
    have G:Hid (FA 3 c.step=true):=Dp (by rw[hs];rfl);have B:Below (R+1) w0 w0:=Dq _ _;clear hs
    go_enter Nt,Ns
    go_wp2
    rw[E.out,q.out]
    go_loopw [5] (fun v wr=>∃i:Nat,i<=2/\v=.int .i64 i/\Below (R+1) w0 wr/\Hid ((0<i->AW 3 c.mx=true)/\(1<i->AW 3 c.my=true))) (fun v _=>2-(RowKit.intOf v).toNat)
    case atStart=>exact⟨0,by omega,rfl,B,Dp ⟨fun h=>absurd h (by omega),fun h=>absurd h (by omega)⟩⟩
    case round=>
     obtain⟨i,ae,rfl,f,H⟩:=hrel;obtain⟨-,-,c2,-,c4,c5⟩:=FL (g.out _ f).2;rw[M.out] at c2;rcases (by omega:i=0\/i=1\/i=2) with rfl|rfl|rfl
     ·by_cases l:c.mx < -32
      ·have D:decide (c.mx < -32)=true:=Kn l;have Z:Hid (z=false):=Dp (by rw[s.out,(show AW 3 c.mx=false by unfold AW;rw[show AD 3=true from rfl];exact Fg.2 (by omega))];simp);clear l
       go_wp2
       go_ret
       exact⟨AH Z.out.symm,by rw[q.out];exact a.trans ((f).mono (by omega))⟩
      have D:decide (c.mx < -32)=false:=Km l;by_cases r:31<c.mx
      ·have I:decide (31<c.mx)=true:=Kn r;have Z:Hid (z=false):=Dp (by rw[s.out,(show AW 3 c.mx=false by unfold AW;rw[show AD 3=true from rfl];exact Fg.2 (by omega))];simp);clear l r
       go_wp2
       go_ret
       exact⟨AH Z.out.symm,by rw[q.out];exact a.trans ((f).mono (by omega))⟩
      have I:decide (31<c.mx)=false:=Km r;by_cases t:c.mx=0
      ·have u2:(c.mx != 0)=false:=by simpa using t
       have J:Hid (AW 3 c.mx=true):=Dp (by unfold AW;rw[show AD 3=true from rfl,t];rfl);clear l r t
       go_wp2
       go_roundw
       case rel=>exact⟨0+1,by omega,by first|rfl|trivial,f,Dp ⟨fun _=>J.out,fun h=>absurd h (by omega)⟩⟩
       case measure=>simp[RowKit.intOf]
      ·have u2:(c.mx != 0)=true:=by simpa using t
       have Z:Hid (z=false):=Dp (by rw[s.out,(show AW 3 c.mx=false by unfold AW;rw[show AD 3=true from rfl];exact Fg.2 t)];simp);clear l r t
       go_wp2
       go_ret
       exact⟨AH Z.out.symm,by rw[q.out];exact a.trans ((f).mono (by omega))⟩
     ·by_cases l:c.my < -32
      ·have D:decide (c.my < -32)=true:=Kn l;have Z:Hid (z=false):=Dp (by rw[s.out,(show AW 3 c.my=false by unfold AW;rw[show AD 3=true from rfl];exact Fg.2 (by omega))];simp);clear l
       go_wp2
       go_ret
       exact⟨AH Z.out.symm,by rw[q.out];exact a.trans ((f).mono (by omega))⟩
      have D:decide (c.my < -32)=false:=Km l;by_cases r:31<c.my
      ·have I:decide (31<c.my)=true:=Kn r;have Z:Hid (z=false):=Dp (by rw[s.out,(show AW 3 c.my=false by unfold AW;rw[show AD 3=true from rfl];exact Fg.2 (by omega))];simp);clear l r
       go_wp2
       go_ret
       exact⟨AH Z.out.symm,by rw[q.out];exact a.trans ((f).mono (by omega))⟩
      have I:decide (31<c.my)=false:=Km r;by_cases t:c.my=0
      ·have u2:(c.my != 0)=false:=by simpa using t
       have J:Hid (AW 3 c.my=true):=Dp (by unfold AW;rw[show AD 3=true from rfl,t];rfl);clear l r t
       go_wp2
       go_roundw
       case rel=>exact⟨1+1,by omega,by first|rfl|trivial,f,Dp ⟨fun _=>H.out.1 (by omega),fun _=>J.out⟩⟩
       case measure=>simp[RowKit.intOf]
      ·have u2:(c.my != 0)=true:=by simpa using t
       have Z:Hid (z=false):=Dp (by rw[s.out,(show AW 3 c.my=false by unfold AW;rw[show AD 3=true from rfl];exact Fg.2 t)];simp);clear l r t
       go_wp2
       go_ret
       exact⟨AH Z.out.symm,by rw[q.out];exact a.trans ((f).mono (by omega))⟩
     ·have O:Hid (z=EY c):=Dp (by rw[s.out,H.out.1 (by omega),H.out.2 (by omega),G.out];rfl);clear c4 c5
      go_wp2
      go_loopw [6] (fun v K=>∃i:Nat,i<=6/\v=.int .i64 i/\Below (R+1) w0 K/\Hid (∀j,j<i->CS (AD 3) (c.dc j) (c.ev j)=true)) (fun v _=>6-(RowKit.intOf v).toNat)
      case atStart=>exact⟨0,by omega,rfl,f,Dp fun j h=>absurd h (Fk j)⟩
      case round=>
       clear f c2;obtain⟨i,af,rfl,f,P⟩:=hrel;obtain⟨-,-,c2,-,-,-⟩:=FL (g.out _ f).2;rw[M.out] at c2;by_cases d:i<6
       ·have t3:decide ((i:Int)<6)=true:=by simp;omega
        have d0:=AA (o:=6+i) (g.out _ f).2 (JM c _ i d);have Q:=AA (o:=12+i) (g.out _ f).2 (JZ c (fun i=>.slice (p i) (n i) (k i)) i d);rw[Y.out i d] at Q;have hm:=X.out i d;have ag:=Dp (fun x (b:Below (R+1) w0 x)=>(M.out▸(FL (g.out x b).2).2.2.1:x.cell? ⟨R,2,none⟩=some (.int .i64 3)))
        have ah:=Dp (fun x (b:Below (R+1) w0 x)=>AA (o:=6+i) (g.out x b).2 (JM c _ i d));have ai:=Dp (fun x (b:Below (R+1) w0 x)=>(by have h:=AA (o:=12+i) (g.out x b).2 (JZ c (fun i=>.slice (p i) (n i) (k i)) i d);rw[Y.out i d] at h;exact h:x.cell? ⟨R,12+i,none⟩=some (.slice (p i) (c.ev i).length (k i))))
        have aj:=Dp (fun x (b:Below (R+1) w0 x)=>((W x).mono fun e y h=>⟨h.1,h.2▸b⟩:A9 prog 52 #[.int .i64 3] x fun e y=>e=.returned (.bool (AD 3))/\Below (R+1) w0 y))
        have T:=Dp (fun x (b:Below (R+1) w0 x)=>((hm x (a.trans (b.mono (by omega)))).mono fun e y h=>⟨h.1,b.trans (h.2.mono (by have:=b.size;omega))⟩:A9 prog 123 #[.bool (AD 3),.int .i64 (c.dc i),.slice (p i) (c.ev i).length (k i)] x fun e y=>e=.returned (.bool (CS (AD 3) (c.dc i) (c.ev i)))/\Below (R+1) w0 y));have L:=f.drew;clear c2 d0 Q hm
        generalize m:CS (AD 3) (c.dc i) (c.ev i)=mb at T
        go_wp2
        refine BY (S:=fun x=>Below (R+1) w0 x) 13 (by kernel_rfl) (by kernel_rfl) L ?_;simp only[Dt,Bi,Nl,Nn];refine AG ?_;simp only[A1];refine AN 3 _ ⟨R,2,none⟩ (.int .i64 3) (by kernel_rfl) rfl rfl (fun x b=>by have U:=ag.out x b;go_simp) ?_;simp only[A1];refine AS (by kernel_rfl) aj.out (fun _=>by kernel_rfl) ?_;simp only[A1]
        iterate 2 (refine AG ?_;simp only[A1])
        refine AP (by kernel_rfl) (fun x _=>by go_simp;rw[Bc (by omega)]) ?_;simp only[A1];refine AN 3 _ ⟨R,6+i,none⟩ (.int .i64 (c.dc i)) (by kernel_rfl) rfl rfl (fun x b=>by have U:=ah.out x b;go_simp) ?_;simp only[A1]
        iterate 2 (refine AG ?_;simp only[A1])
        refine AP (by kernel_rfl) (fun x _=>by go_simp;rw[Bc (by omega)]) ?_;simp only[A1];refine AN 72 _ ⟨R,12+i,none⟩ (.slice (p i) (c.ev i).length (k i)) (by kernel_rfl) rfl rfl (fun x b=>by have U:=ai.out x b;go_simp) ?_;simp only[A1];refine AS (by kernel_rfl) T.out (fun _=>by kernel_rfl) ?_;simp only[A1];refine AG ?_;simp only[A1];refine BV fun x b=>?_;cases mb with
        |true=>
         have ak:=Dp m;clear m
         go_wp2
         go_roundw
         case rel=>exact⟨i+1,by omega,by go_num,b,Dp fun j hj=>(Nr.1 hj).elim (P.out j) fun h=>h▸ak.out⟩
         case measure=>simp[RowKit.intOf];omega
        |false=>
         have Z:Hid (z=false):=Dp (by rw[O.out];exact Nq.2 fun h=>by rw[aa.out.1 h i d] at m;cases m);clear m
         go_wp2
         go_ret
         exact⟨AH Z.out.symm,by rw[q.out];exact a.trans (b.mono (by omega))⟩
       ·obtain rfl:i=6:=by omega
        have Z:Hid (z=true):=Dp (by rw[O.out];exact aa.out.2 P.out)
        go_wp2
        go_ret
        exact⟨AH Z.out.symm,by rw[q.out];exact a.trans (f.mono (by omega))⟩
   ·have u:(c.step != 0)=true:=by simpa using hs
    have Z:Hid (z=false):=Dp (by rw[s.out,show FA 3 c.step=false from Fg.2 hs];rfl);clear hs
    go_enter Nt,Ns
    go_wp2
    go_ret
    exact⟨AH Z.out.symm,by rw[E.out,q.out];exact a⟩
  ·clear C;have aq:Hid (FA 4 c.step = !(C0 c.step).data.toList.isEmpty):=Dp rfl
   go_enter Nt,Ns
   go_wp2_with fail
   rw[E.out,q.out];refine(al _).mono ?_;rintro e w1 ⟨rfl,F⟩;rw[an] at F;have B:Below (R+1) w0 w1:=F;obtain⟨-,-,c2,c3,-,-⟩:=FL (g.out _ B).2;rw[M.out] at c2;have ue:(C0 c.step).data.toList.isEmpty=false->(C0 c.step).toList.isEmpty=false:=fun h=>by rcases QL.1 h with e|e|e|e <;> rw[e] <;> decide +kernel
   generalize C0 c.step=sr at *;cases hse:sr.data.toList.isEmpty
   ·have G:Hid (FA 4 c.step=true):=Dp (by rw[aq.out,hse];rfl);have u:=ue hse;clear hse ue
    go_wp2
    go_loopw [5] (fun v wr=>∃i:Nat,i<=2/\v=.int .i64 i/\Below (R+1) w0 wr/\Hid ((0<i->AW 4 c.mx=true)/\(1<i->AW 4 c.my=true))) (fun v _=>2-(RowKit.intOf v).toNat)
    case atStart=>exact⟨0,by omega,rfl,B,Dp ⟨fun h=>absurd h (by omega),fun h=>absurd h (by omega)⟩⟩
    case round=>
     obtain⟨i,ae,rfl,f,H⟩:=hrel;obtain⟨-,-,c2,-,c4,c5⟩:=FL (g.out _ f).2;rw[M.out] at c2;rcases (by omega:i=0\/i=1\/i=2) with rfl|rfl|rfl
     ·by_cases l:c.mx < -32
      ·have D:decide (c.mx < -32)=true:=Kn l;have Z:Hid (z=false):=Dp (by rw[s.out,(show AW 4 c.mx=false by unfold AW;rw[show AD 4=true from rfl];exact Fg.2 (by omega))];simp);clear l
       go_wp2
       go_ret
       exact⟨AH Z.out.symm,by rw[q.out];exact a.trans ((f).mono (by omega))⟩
      have D:decide (c.mx < -32)=false:=Km l;by_cases r:31<c.mx
      ·have I:decide (31<c.mx)=true:=Kn r;have Z:Hid (z=false):=Dp (by rw[s.out,(show AW 4 c.mx=false by unfold AW;rw[show AD 4=true from rfl];exact Fg.2 (by omega))];simp);clear l r
       go_wp2
       go_ret
       exact⟨AH Z.out.symm,by rw[q.out];exact a.trans ((f).mono (by omega))⟩
      have I:decide (31<c.mx)=false:=Km r;by_cases t:c.mx=0
      ·have u2:(c.mx != 0)=false:=by simpa using t
       have J:Hid (AW 4 c.mx=true):=Dp (by unfold AW;rw[show AD 4=true from rfl,t];rfl);clear l r t
       go_wp2
       go_roundw
       case rel=>exact⟨0+1,by omega,by first|rfl|trivial,f,Dp ⟨fun _=>J.out,fun h=>absurd h (by omega)⟩⟩
       case measure=>simp[RowKit.intOf]
      ·have u2:(c.mx != 0)=true:=by simpa using t
       have Z:Hid (z=false):=Dp (by rw[s.out,(show AW 4 c.mx=false by unfold AW;rw[show AD 4=true from rfl];exact Fg.2 t)];simp);clear l r t
       go_wp2
       go_ret
       exact⟨AH Z.out.symm,by rw[q.out];exact a.trans ((f).mono (by omega))⟩
     ·by_cases l:c.my < -32
      ·have D:decide (c.my < -32)=true:=Kn l;have Z:Hid (z=false):=Dp (by rw[s.out,(show AW 4 c.my=false by unfold AW;rw[show AD 4=true from rfl];exact Fg.2 (by omega))];simp);clear l
       go_wp2
       go_ret
       exact⟨AH Z.out.symm,by rw[q.out];exact a.trans ((f).mono (by omega))⟩
      have D:decide (c.my < -32)=false:=Km l;by_cases r:31<c.my
      ·have I:decide (31<c.my)=true:=Kn r;have Z:Hid (z=false):=Dp (by rw[s.out,(show AW 4 c.my=false by unfold AW;rw[show AD 4=true from rfl];exact Fg.2 (by omega))];simp);clear l r
       go_wp2
       go_ret
       exact⟨AH Z.out.symm,by rw[q.out];exact a.trans ((f).mono (by omega))⟩
      have I:decide (31<c.my)=false:=Km r;by_cases t:c.my=0
      ·have u2:(c.my != 0)=false:=by simpa using t
       have J:Hid (AW 4 c.my=true):=Dp (by unfold AW;rw[show AD 4=true from rfl,t];rfl);clear l r t
       go_wp2
       go_roundw
       case rel=>exact⟨1+1,by omega,by first|rfl|trivial,f,Dp ⟨fun _=>H.out.1 (by omega),fun _=>J.out⟩⟩
       case measure=>simp[RowKit.intOf]
      ·have u2:(c.my != 0)=true:=by simpa using t
       have Z:Hid (z=false):=Dp (by rw[s.out,(show AW 4 c.my=false by unfold AW;rw[show AD 4=true from rfl];exact Fg.2 t)];simp);clear l r t
       go_wp2
       go_ret
       exact⟨AH Z.out.symm,by rw[q.out];exact a.trans ((f).mono (by omega))⟩
     ·have O:Hid (z=EY c):=Dp (by rw[s.out,H.out.1 (by omega),H.out.2 (by omega),G.out];rfl);clear c4 c5
      go_wp2
      go_loopw [6] (fun v K=>∃i:Nat,i<=6/\v=.int .i64 i/\Below (R+1) w0 K/\Hid (∀j,j<i->CS (AD 4) (c.dc j) (c.ev j)=true)) (fun v _=>6-(RowKit.intOf v).toNat)
      case atStart=>exact⟨0,by omega,rfl,f,Dp fun j h=>absurd h (Fk j)⟩
      case round=>
       clear f c2;obtain⟨i,af,rfl,f,P⟩:=hrel;obtain⟨-,-,c2,-,-,-⟩:=FL (g.out _ f).2;rw[M.out] at c2;by_cases d:i<6
       ·have t3:decide ((i:Int)<6)=true:=by simp;omega
        have d0:=AA (o:=6+i) (g.out _ f).2 (JM c _ i d);have Q:=AA (o:=12+i) (g.out _ f).2 (JZ c (fun i=>.slice (p i) (n i) (k i)) i d);rw[Y.out i d] at Q;have hm:=X.out i d;have ag:=Dp (fun x (b:Below (R+1) w0 x)=>(M.out▸(FL (g.out x b).2).2.2.1:x.cell? ⟨R,2,none⟩=some (.int .i64 4)))
        have ah:=Dp (fun x (b:Below (R+1) w0 x)=>AA (o:=6+i) (g.out x b).2 (JM c _ i d));have ai:=Dp (fun x (b:Below (R+1) w0 x)=>(by have h:=AA (o:=12+i) (g.out x b).2 (JZ c (fun i=>.slice (p i) (n i) (k i)) i d);rw[Y.out i d] at h;exact h:x.cell? ⟨R,12+i,none⟩=some (.slice (p i) (c.ev i).length (k i))))
        have aj:=Dp (fun x (b:Below (R+1) w0 x)=>((W x).mono fun e y h=>⟨h.1,h.2▸b⟩:A9 prog 52 #[.int .i64 4] x fun e y=>e=.returned (.bool (AD 4))/\Below (R+1) w0 y))
        have T:=Dp (fun x (b:Below (R+1) w0 x)=>((hm x (a.trans (b.mono (by omega)))).mono fun e y h=>⟨h.1,b.trans (h.2.mono (by have:=b.size;omega))⟩:A9 prog 123 #[.bool (AD 4),.int .i64 (c.dc i),.slice (p i) (c.ev i).length (k i)] x fun e y=>e=.returned (.bool (CS (AD 4) (c.dc i) (c.ev i)))/\Below (R+1) w0 y));have L:=f.drew;clear c2 d0 Q hm
        generalize m:CS (AD 4) (c.dc i) (c.ev i)=mb at T
        go_wp2
        refine BY (S:=fun x=>Below (R+1) w0 x) 13 (by kernel_rfl) (by kernel_rfl) L ?_;simp only[Dt,Bi,Nl,Nn];refine AG ?_;simp only[A1];refine AN 3 _ ⟨R,2,none⟩ (.int .i64 4) (by kernel_rfl) rfl rfl (fun x b=>by have U:=ag.out x b;go_simp) ?_;simp only[A1];refine AS (by kernel_rfl) aj.out (fun _=>by kernel_rfl) ?_;simp only[A1]
        iterate 2 (refine AG ?_;simp only[A1])
        refine AP (by kernel_rfl) (fun x _=>by go_simp;rw[Bc (by omega)]) ?_;simp only[A1];refine AN 3 _ ⟨R,6+i,none⟩ (.int .i64 (c.dc i)) (by kernel_rfl) rfl rfl (fun x b=>by have U:=ah.out x b;go_simp) ?_;simp only[A1]
        iterate 2 (refine AG ?_;simp only[A1])
        refine AP (by kernel_rfl) (fun x _=>by go_simp;rw[Bc (by omega)]) ?_;simp only[A1];refine AN 72 _ ⟨R,12+i,none⟩ (.slice (p i) (c.ev i).length (k i)) (by kernel_rfl) rfl rfl (fun x b=>by have U:=ai.out x b;go_simp) ?_;simp only[A1];refine AS (by kernel_rfl) T.out (fun _=>by kernel_rfl) ?_;simp only[A1];refine AG ?_;simp only[A1];refine BV fun x b=>?_;cases mb with
        |true=>
         have ak:=Dp m;clear m
         go_wp2
         go_roundw
         case rel=>exact⟨i+1,by omega,by go_num,b,Dp fun j hj=>(Nr.1 hj).elim (P.out j) fun h=>h▸ak.out⟩
         case measure=>simp[RowKit.intOf];omega
        |false=>
         have Z:Hid (z=false):=Dp (by rw[O.out];exact Nq.2 fun h=>by rw[aa.out.1 h i d] at m;cases m);clear m
         go_wp2
         go_ret
         exact⟨AH Z.out.symm,by rw[q.out];exact a.trans (b.mono (by omega))⟩
       ·obtain rfl:i=6:=by omega
        have Z:Hid (z=true):=Dp (by rw[O.out];exact aa.out.2 P.out)
        go_wp2
        go_ret
        exact⟨AH Z.out.symm,by rw[q.out];exact a.trans (f.mono (by omega))⟩
   ·have Z:Hid (z=false):=Dp (by rw[s.out,aq.out,hse];rfl);have D:sr=⟨#[]⟩:=by
     have h:=List.isEmpty_iff.1 hse;exact IU.2 h
    subst D;clear hse c3
    go_wp2
    go_ret
    exact⟨AH Z.out.symm,by rw[q.out];exact a.trans (B.mono (by omega))⟩
  ·obtain rfl:inter=true:=by cases inter with|true=>rfl|false=>exact absurd (C rfl) (by simp)
   clear C;by_cases hs:c.step=0
   ·have u:(c.step != 0)=false:=by simpa using hs
    have G:Hid (FA 0 c.step=true):=Dp (by rw[hs];rfl);have B:Below (R+1) w0 w0:=Dq _ _;clear hs
    go_enter Nt,Ns
    go_wp2
    rw[E.out,q.out]
    go_loopw [5] (fun v wr=>∃i:Nat,i<=2/\v=.int .i64 i/\Below (R+1) w0 wr/\Hid ((0<i->AW 0 c.mx=true)/\(1<i->AW 0 c.my=true))) (fun v _=>2-(RowKit.intOf v).toNat)
    case atStart=>exact⟨0,by omega,rfl,B,Dp ⟨fun h=>absurd h (by omega),fun h=>absurd h (by omega)⟩⟩
    case round=>
     obtain⟨i,ae,rfl,f,H⟩:=hrel;obtain⟨-,-,c2,-,c4,c5⟩:=FL (g.out _ f).2;rw[M.out] at c2;rcases (by omega:i=0\/i=1\/i=2) with rfl|rfl|rfl
     ·by_cases l:c.mx < -32
      ·have D:decide (c.mx < -32)=true:=Kn l;have Z:Hid (z=false):=Dp (by rw[s.out,(show AW 0 c.mx=false by unfold AW;rw[show AD 0=false from rfl];exact Fg.2 (fun h=>by have:=IK c.mx;omega))];simp);clear l
       go_wp2
       go_ret
       exact⟨AH Z.out.symm,by rw[q.out];exact a.trans ((f).mono (by omega))⟩
      have D:decide (c.mx < -32)=false:=Km l;by_cases r:31<c.mx
      ·have I:decide (31<c.mx)=true:=Kn r;have Z:Hid (z=false):=Dp (by rw[s.out,(show AW 0 c.mx=false by unfold AW;rw[show AD 0=false from rfl];exact Fg.2 (fun h=>by have:=IK c.mx;omega))];simp);clear l r
       go_wp2
       go_ret
       exact⟨AH Z.out.symm,by rw[q.out];exact a.trans ((f).mono (by omega))⟩
      have I:decide (31<c.mx)=false:=Km r;have J:Hid (AW 0 c.mx=true):=Dp (by unfold AW;rw[show AD 0=false from rfl];exact Bm.2 (Lf.2 ⟨by omega,by omega⟩));clear l r
      go_wp2
      go_roundw
      case rel=>exact⟨0+1,by omega,by first|rfl|trivial,f,Dp ⟨fun _=>J.out,fun h=>absurd h (by omega)⟩⟩
      case measure=>simp[RowKit.intOf]
     ·by_cases l:c.my < -32
      ·have D:decide (c.my < -32)=true:=Kn l;have Z:Hid (z=false):=Dp (by rw[s.out,(show AW 0 c.my=false by unfold AW;rw[show AD 0=false from rfl];exact Fg.2 (fun h=>by have:=IK c.my;omega))];simp);clear l
       go_wp2
       go_ret
       exact⟨AH Z.out.symm,by rw[q.out];exact a.trans ((f).mono (by omega))⟩
      have D:decide (c.my < -32)=false:=Km l;by_cases r:31<c.my
      ·have I:decide (31<c.my)=true:=Kn r;have Z:Hid (z=false):=Dp (by rw[s.out,(show AW 0 c.my=false by unfold AW;rw[show AD 0=false from rfl];exact Fg.2 (fun h=>by have:=IK c.my;omega))];simp);clear l r
       go_wp2
       go_ret
       exact⟨AH Z.out.symm,by rw[q.out];exact a.trans ((f).mono (by omega))⟩
      have I:decide (31<c.my)=false:=Km r;have J:Hid (AW 0 c.my=true):=Dp (by unfold AW;rw[show AD 0=false from rfl];exact Bm.2 (Lf.2 ⟨by omega,by omega⟩));clear l r
      go_wp2
      go_roundw
      case rel=>exact⟨1+1,by omega,by first|rfl|trivial,f,Dp ⟨fun _=>H.out.1 (by omega),fun _=>J.out⟩⟩
      case measure=>simp[RowKit.intOf]
     ·have O:Hid (z=EY c):=Dp (by rw[s.out,H.out.1 (by omega),H.out.2 (by omega),G.out];rfl);clear c4 c5
      go_wp2
      go_loopw [6] (fun v K=>∃i:Nat,i<=6/\v=.int .i64 i/\Below (R+1) w0 K/\Hid (∀j,j<i->CS (AD 0) (c.dc j) (c.ev j)=true)) (fun v _=>6-(RowKit.intOf v).toNat)
      case atStart=>exact⟨0,by omega,rfl,f,Dp fun j h=>absurd h (Fk j)⟩
      case round=>
       clear f c2;obtain⟨i,af,rfl,f,P⟩:=hrel;obtain⟨-,-,c2,-,-,-⟩:=FL (g.out _ f).2;rw[M.out] at c2;by_cases d:i<6
       ·have t3:decide ((i:Int)<6)=true:=by simp;omega
        have d0:=AA (o:=6+i) (g.out _ f).2 (JM c _ i d);have Q:=AA (o:=12+i) (g.out _ f).2 (JZ c (fun i=>.slice (p i) (n i) (k i)) i d);rw[Y.out i d] at Q;have hm:=X.out i d;have ag:=Dp (fun x (b:Below (R+1) w0 x)=>(M.out▸(FL (g.out x b).2).2.2.1:x.cell? ⟨R,2,none⟩=some (.int .i64 0)))
        have ah:=Dp (fun x (b:Below (R+1) w0 x)=>AA (o:=6+i) (g.out x b).2 (JM c _ i d));have ai:=Dp (fun x (b:Below (R+1) w0 x)=>(by have h:=AA (o:=12+i) (g.out x b).2 (JZ c (fun i=>.slice (p i) (n i) (k i)) i d);rw[Y.out i d] at h;exact h:x.cell? ⟨R,12+i,none⟩=some (.slice (p i) (c.ev i).length (k i))))
        have aj:=Dp (fun x (b:Below (R+1) w0 x)=>((W x).mono fun e y h=>⟨h.1,h.2▸b⟩:A9 prog 52 #[.int .i64 0] x fun e y=>e=.returned (.bool (AD 0))/\Below (R+1) w0 y))
        have T:=Dp (fun x (b:Below (R+1) w0 x)=>((hm x (a.trans (b.mono (by omega)))).mono fun e y h=>⟨h.1,b.trans (h.2.mono (by have:=b.size;omega))⟩:A9 prog 123 #[.bool (AD 0),.int .i64 (c.dc i),.slice (p i) (c.ev i).length (k i)] x fun e y=>e=.returned (.bool (CS (AD 0) (c.dc i) (c.ev i)))/\Below (R+1) w0 y));have L:=f.drew;clear c2 d0 Q hm
        generalize m:CS (AD 0) (c.dc i) (c.ev i)=mb at T
        go_wp2
        refine BY (S:=fun x=>Below (R+1) w0 x) 13 (by kernel_rfl) (by kernel_rfl) L ?_;simp only[Dt,Bi,Nl,Nn];refine AG ?_;simp only[A1];refine AN 3 _ ⟨R,2,none⟩ (.int .i64 0) (by kernel_rfl) rfl rfl (fun x b=>by have U:=ag.out x b;go_simp) ?_;simp only[A1];refine AS (by kernel_rfl) aj.out (fun _=>by kernel_rfl) ?_;simp only[A1]
        iterate 2 (refine AG ?_;simp only[A1])
        refine AP (by kernel_rfl) (fun x _=>by go_simp;rw[Bc (by omega)]) ?_;simp only[A1];refine AN 3 _ ⟨R,6+i,none⟩ (.int .i64 (c.dc i)) (by kernel_rfl) rfl rfl (fun x b=>by have U:=ah.out x b;go_simp) ?_;simp only[A1]
        iterate 2 (refine AG ?_;simp only[A1])
        refine AP (by kernel_rfl) (fun x _=>by go_simp;rw[Bc (by omega)]) ?_;simp only[A1];refine AN 72 _ ⟨R,12+i,none⟩ (.slice (p i) (c.ev i).length (k i)) (by kernel_rfl) rfl rfl (fun x b=>by have U:=ai.out x b;go_simp) ?_;simp only[A1];refine AS (by kernel_rfl) T.out (fun _=>by kernel_rfl) ?_;simp only[A1];refine AG ?_;simp only[A1];refine BV fun x b=>?_;cases mb with
        |true=>
         have ak:=Dp m;clear m
         go_wp2
         go_roundw
         case rel=>exact⟨i+1,by omega,by go_num,b,Dp fun j hj=>(Nr.1 hj).elim (P.out j) fun h=>h▸ak.out⟩
         case measure=>simp[RowKit.intOf];omega
        |false=>
         have Z:Hid (z=false):=Dp (by rw[O.out];exact Nq.2 fun h=>by rw[aa.out.1 h i d] at m;cases m);clear m
         go_wp2
         go_ret
         exact⟨AH Z.out.symm,by rw[q.out];exact a.trans (b.mono (by omega))⟩
       ·obtain rfl:i=6:=by omega
        have Z:Hid (z=true):=Dp (by rw[O.out];exact aa.out.2 P.out)
        go_wp2
        go_ret
        exact⟨AH Z.out.symm,by rw[q.out];exact a.trans (f.mono (by omega))⟩
   ·have u:(c.step != 0)=true:=by simpa using hs
    have Z:Hid (z=false):=Dp (by rw[s.out,show FA 0 c.step=false from Fg.2 hs];rfl);clear hs
    go_enter Nt,Ns
    go_wp2
    go_ret
    exact⟨AH Z.out.symm,by rw[E.out,q.out];exact a⟩
  ·obtain rfl:inter=true:=by cases inter with|true=>rfl|false=>exact absurd (C rfl) (by simp)
   clear C;have aq:Hid (FA 1 c.step = !(C0 c.step).data.toList.isEmpty):=Dp rfl
   go_enter Nt,Ns
   go_wp2_with fail
   rw[E.out,q.out];refine(al _).mono ?_;rintro e w1 ⟨rfl,F⟩;rw[an] at F;have B:Below (R+1) w0 w1:=F;obtain⟨-,-,c2,c3,-,-⟩:=FL (g.out _ B).2;rw[M.out] at c2;have ue:(C0 c.step).data.toList.isEmpty=false->(C0 c.step).toList.isEmpty=false:=fun h=>by rcases QL.1 h with e|e|e|e <;> rw[e] <;> decide +kernel
   generalize C0 c.step=sr at *;cases hse:sr.data.toList.isEmpty
   ·have G:Hid (FA 1 c.step=true):=Dp (by rw[aq.out,hse];rfl);have u:=ue hse;clear hse ue
    go_wp2
    go_loopw [5] (fun v wr=>∃i:Nat,i<=2/\v=.int .i64 i/\Below (R+1) w0 wr/\Hid ((0<i->AW 1 c.mx=true)/\(1<i->AW 1 c.my=true))) (fun v _=>2-(RowKit.intOf v).toNat)
    case atStart=>exact⟨0,by omega,rfl,B,Dp ⟨fun h=>absurd h (by omega),fun h=>absurd h (by omega)⟩⟩
    case round=>
     obtain⟨i,ae,rfl,f,H⟩:=hrel;obtain⟨-,-,c2,-,c4,c5⟩:=FL (g.out _ f).2;rw[M.out] at c2;rcases (by omega:i=0\/i=1\/i=2) with rfl|rfl|rfl
     ·by_cases l:c.mx < -32
      ·have D:decide (c.mx < -32)=true:=Kn l;have Z:Hid (z=false):=Dp (by rw[s.out,(show AW 1 c.mx=false by unfold AW;rw[show AD 1=false from rfl];exact Fg.2 (fun h=>by have:=IK c.mx;omega))];simp);clear l
       go_wp2
       go_ret
       exact⟨AH Z.out.symm,by rw[q.out];exact a.trans ((f).mono (by omega))⟩
      have D:decide (c.mx < -32)=false:=Km l;by_cases r:31<c.mx
      ·have I:decide (31<c.mx)=true:=Kn r;have Z:Hid (z=false):=Dp (by rw[s.out,(show AW 1 c.mx=false by unfold AW;rw[show AD 1=false from rfl];exact Fg.2 (fun h=>by have:=IK c.mx;omega))];simp);clear l r
       go_wp2
       go_ret
       exact⟨AH Z.out.symm,by rw[q.out];exact a.trans ((f).mono (by omega))⟩
      have I:decide (31<c.mx)=false:=Km r;have J:Hid (AW 1 c.mx=true):=Dp (by unfold AW;rw[show AD 1=false from rfl];exact Bm.2 (Lf.2 ⟨by omega,by omega⟩));clear l r
      go_wp2
      go_roundw
      case rel=>exact⟨0+1,by omega,by first|rfl|trivial,f,Dp ⟨fun _=>J.out,fun h=>absurd h (by omega)⟩⟩
      case measure=>simp[RowKit.intOf]
     ·by_cases l:c.my < -32
      ·have D:decide (c.my < -32)=true:=Kn l;have Z:Hid (z=false):=Dp (by rw[s.out,(show AW 1 c.my=false by unfold AW;rw[show AD 1=false from rfl];exact Fg.2 (fun h=>by have:=IK c.my;omega))];simp);clear l
       go_wp2
       go_ret
       exact⟨AH Z.out.symm,by rw[q.out];exact a.trans ((f).mono (by omega))⟩
      have D:decide (c.my < -32)=false:=Km l;by_cases r:31<c.my
      ·have I:decide (31<c.my)=true:=Kn r;have Z:Hid (z=false):=Dp (by rw[s.out,(show AW 1 c.my=false by unfold AW;rw[show AD 1=false from rfl];exact Fg.2 (fun h=>by have:=IK c.my;omega))];simp);clear l r
       go_wp2
       go_ret
       exact⟨AH Z.out.symm,by rw[q.out];exact a.trans ((f).mono (by omega))⟩
      have I:decide (31<c.my)=false:=Km r;have J:Hid (AW 1 c.my=true):=Dp (by unfold AW;rw[show AD 1=false from rfl];exact Bm.2 (Lf.2 ⟨by omega,by omega⟩));clear l r
      go_wp2
      go_roundw
      case rel=>exact⟨1+1,by omega,by first|rfl|trivial,f,Dp ⟨fun _=>H.out.1 (by omega),fun _=>J.out⟩⟩
      case measure=>simp[RowKit.intOf]
     ·have O:Hid (z=EY c):=Dp (by rw[s.out,H.out.1 (by omega),H.out.2 (by omega),G.out];rfl);clear c4 c5
      go_wp2
      go_loopw [6] (fun v K=>∃i:Nat,i<=6/\v=.int .i64 i/\Below (R+1) w0 K/\Hid (∀j,j<i->CS (AD 1) (c.dc j) (c.ev j)=true)) (fun v _=>6-(RowKit.intOf v).toNat)
      case atStart=>exact⟨0,by omega,rfl,f,Dp fun j h=>absurd h (Fk j)⟩
      case round=>
       clear f c2;obtain⟨i,af,rfl,f,P⟩:=hrel;obtain⟨-,-,c2,-,-,-⟩:=FL (g.out _ f).2;rw[M.out] at c2;by_cases d:i<6
       ·have t3:decide ((i:Int)<6)=true:=by simp;omega
        have d0:=AA (o:=6+i) (g.out _ f).2 (JM c _ i d);have Q:=AA (o:=12+i) (g.out _ f).2 (JZ c (fun i=>.slice (p i) (n i) (k i)) i d);rw[Y.out i d] at Q;have hm:=X.out i d;have ag:=Dp (fun x (b:Below (R+1) w0 x)=>(M.out▸(FL (g.out x b).2).2.2.1:x.cell? ⟨R,2,none⟩=some (.int .i64 1)))
        have ah:=Dp (fun x (b:Below (R+1) w0 x)=>AA (o:=6+i) (g.out x b).2 (JM c _ i d));have ai:=Dp (fun x (b:Below (R+1) w0 x)=>(by have h:=AA (o:=12+i) (g.out x b).2 (JZ c (fun i=>.slice (p i) (n i) (k i)) i d);rw[Y.out i d] at h;exact h:x.cell? ⟨R,12+i,none⟩=some (.slice (p i) (c.ev i).length (k i))))
        have aj:=Dp (fun x (b:Below (R+1) w0 x)=>((W x).mono fun e y h=>⟨h.1,h.2▸b⟩:A9 prog 52 #[.int .i64 1] x fun e y=>e=.returned (.bool (AD 1))/\Below (R+1) w0 y))
        have T:=Dp (fun x (b:Below (R+1) w0 x)=>((hm x (a.trans (b.mono (by omega)))).mono fun e y h=>⟨h.1,b.trans (h.2.mono (by have:=b.size;omega))⟩:A9 prog 123 #[.bool (AD 1),.int .i64 (c.dc i),.slice (p i) (c.ev i).length (k i)] x fun e y=>e=.returned (.bool (CS (AD 1) (c.dc i) (c.ev i)))/\Below (R+1) w0 y));have L:=f.drew;clear c2 d0 Q hm
        generalize m:CS (AD 1) (c.dc i) (c.ev i)=mb at T
        go_wp2
        refine BY (S:=fun x=>Below (R+1) w0 x) 13 (by kernel_rfl) (by kernel_rfl) L ?_;simp only[Dt,Bi,Nl,Nn];refine AG ?_;simp only[A1];refine AN 3 _ ⟨R,2,none⟩ (.int .i64 1) (by kernel_rfl) rfl rfl (fun x b=>by have U:=ag.out x b;go_simp) ?_;simp only[A1];refine AS (by kernel_rfl) aj.out (fun _=>by kernel_rfl) ?_;simp only[A1]
        iterate 2 (refine AG ?_;simp only[A1])
        refine AP (by kernel_rfl) (fun x _=>by go_simp;rw[Bc (by omega)]) ?_;simp only[A1];refine AN 3 _ ⟨R,6+i,none⟩ (.int .i64 (c.dc i)) (by kernel_rfl) rfl rfl (fun x b=>by have U:=ah.out x b;go_simp) ?_;simp only[A1]
        iterate 2 (refine AG ?_;simp only[A1])
        refine AP (by kernel_rfl) (fun x _=>by go_simp;rw[Bc (by omega)]) ?_;simp only[A1];refine AN 72 _ ⟨R,12+i,none⟩ (.slice (p i) (c.ev i).length (k i)) (by kernel_rfl) rfl rfl (fun x b=>by have U:=ai.out x b;go_simp) ?_;simp only[A1];refine AS (by kernel_rfl) T.out (fun _=>by kernel_rfl) ?_;simp only[A1];refine AG ?_;simp only[A1];refine BV fun x b=>?_;cases mb with
        |true=>
         have ak:=Dp m;clear m
         go_wp2
         go_roundw
         case rel=>exact⟨i+1,by omega,by go_num,b,Dp fun j hj=>(Nr.1 hj).elim (P.out j) fun h=>h▸ak.out⟩
         case measure=>simp[RowKit.intOf];omega
        |false=>
         have Z:Hid (z=false):=Dp (by rw[O.out];exact Nq.2 fun h=>by rw[aa.out.1 h i d] at m;cases m);clear m
         go_wp2
         go_ret
         exact⟨AH Z.out.symm,by rw[q.out];exact a.trans (b.mono (by omega))⟩
       ·obtain rfl:i=6:=by omega
        have Z:Hid (z=true):=Dp (by rw[O.out];exact aa.out.2 P.out)
        go_wp2
        go_ret
        exact⟨AH Z.out.symm,by rw[q.out];exact a.trans (f.mono (by omega))⟩
   ·have Z:Hid (z=false):=Dp (by rw[s.out,aq.out,hse];rfl);have D:sr=⟨#[]⟩:=by
     have h:=List.isEmpty_iff.1 hse;exact IU.2 h
    subst D;clear hse c3
    go_wp2
    go_ret
    exact⟨AH Z.out.symm,by rw[q.out];exact a.trans (B.mono (by omega))⟩
end Go.Proofs.YtjjmalchelniiaaGreatDoor