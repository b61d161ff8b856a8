/- StripsWrites, 16. No condition. -/
import Derived.Test.YtjjmalchelniiaaGreatDoorStripsWritesMa
import Derived.Test.YtjjmalchelniiaaGreatDoorStripsWritesMh
import Derived.Test.YtjjmalchelniiaaGreatDoorStripsWritesMl
import Derived.Test.YtjjmalchelniiaaGreatDoorStripsWritesMo
import Derived.Deep.CutRange
import Derived.Deep.DeepCutAuto
open Go.Proofs.Tryz
open Go renaming Addr->Aa,Value->A0,World->A5,Calls->A9,TypeId->A7
set_option maxHeartbeats 4000000
namespace Go.Proofs.YtjjmalchelniiaaGreatDoor
section
open Go.RowKit Go.Lib
abbrev J4:=@trivial
def KE (a:Nat)(h:Shd):List UInt8:=List.replicate (gap a) 48++BR 0++Eh h
theorem qC (a:Nat)(h:Shd):(KE a h).length=gap a+50+9*h.supp.length:=by
 unfold KE;rw[B9,B9,Bl,GI,Pl];omega
theorem tC (r:List UInt8)(h:Shd):DS r 0++Eh h=r++KE r.length h:=by
 unfold DS KE;simp only[Bd]
set_option maxRecDepth 100000 in
theorem fZ (h:Shd)(a:Nat)(p:Option Aa)(cap:Nat)(K:A0)(z:Int)(ha:a<=1099511627776)(hm:E5 h=true)(w:A5)(hs:CA w p h.supp):
  A9 prog 76 #[.int .i64 (a:Int),.agg (Bx h (.slice p h.supp.length cap) K z).toArray] w fun e w'=>e=.returned (.string (AO (KE a h)))/\Below w.heap.size w w':=by
 obtain⟨⟨r1,r2,f1,f2,q1,q2⟩,⟨m1,m2⟩,bb,W⟩:=JX.1 hm;have r:Eh h=K6 h++(DH h.supp++AB 0 1):=by rw[Tw];rfl
 unfold K6 at r;have B:KE a h=List.replicate (gap a) 48++BR 0++Eh h:=rfl;rw[r] at B;obtain⟨ay,Z⟩:=Ah (KE a h);rw[Z] at B ⊢;obtain⟨l,c,m,inter,d,b⟩:=h;unfold Bx;dsimp only at *;have L:=fun w=>Se 0 (by decide) w;have c1:=fun w=>KK l 8 (by omega) (by omega) (by decide) (by decide) w
 have c2:=fun w=>KK c 3 (by omega) (by omega) (by decide) (by decide) w;have c3:=fun w=>KK m 3 (by omega) (by omega) (by decide) (by decide) w;have c4:=fun w=>KK d 5 (by omega) (by omega) (by decide) (by decide) w
 have c8:∀j,j<b.length->∀w,A9 prog 62 #[.int .i64 (b.getD j 0),.int .i64 8] w fun e w'=>e=.returned (.string (AO (AB (b.getD j 0).toNat 8)))/\w=w':=fun j hj w=>by
  have hb:=W (b.getD j 0) (by rw[show b.getD j 0=b[j] by simp[List.getD,hj]];exact Bn hj);exact KK (b.getD j 0) 8 (by omega) (by omega) (by decide) (by decide) w
 simp only[show (8:Int).toNat=8 from rfl,show (3:Int).toNat=3 from rfl,show (5:Int).toNat=5 from rfl] at c1 c2 c3 c4;rw[show (⟨(AB l.toNat 8).toArray⟩:ByteArray)=AO (AB l.toNat 8) from rfl] at c1;rw[show (⟨(AB c.toNat 3).toArray⟩:ByteArray)=AO (AB c.toNat 3) from rfl] at c2;rw[show (⟨(AB m.toNat 3).toArray⟩:ByteArray)=AO (AB m.toNat 3) from rfl] at c3
 rw[show (⟨(AB d.toNat 5).toArray⟩:ByteArray)=AO (AB d.toNat 5) from rfl] at c4;obtain⟨o,C⟩:=Ah (List.replicate (gap a) 48++BR 0++(AB l.toNat 8++(AB 2 2++(AB c.toNat 3++(AB m.toNat 3++(JP inter++(AB 0 4++(AB d.toNat 5++AB 0 1))))))));have G:o++(DH b++AB 0 1)=ay:=by rw[B,<-C];simp only[Bd]
 have H:o.length=gap a+49:=by
  rw[<-C];unfold JP;simp only[B9,Bl,GI,BB]
 have s:AO (List.replicate (gap a) 48)++AO (BR 0)++AO (AB l.toNat 8)++AO (AB 2 2)++AO (AB c.toNat 3)++AO (AB m.toNat 3)++AO (JP inter)++AO (AB 0 4)++AO (AB d.toNat 5)++AO (AB 0 1)=AO o:=by
  rw[<-C];simp only[MN,Bd]
 rw[show AO (AB 2 2)=(⟨#[49,48]⟩:ByteArray) from rfl,show AO (AB 0 4)=(⟨#[48,48,48,48]⟩:ByteArray) from rfl,show AO (AB 0 1)=(⟨#[48]⟩:ByteArray) from rfl] at s;have ai:AO (JP inter)=if inter=true then (⟨#[49]⟩:ByteArray) else ⟨#[48]⟩:=by cases inter <;> rfl
 have z0:(AO (BR 0)).size=22:=by rw[IC,GI]
 have z1:(AO (AB l.toNat 8)).size=8:=by rw[IC,BB]
 have z2:(AO (AB c.toNat 3)).size=3:=by rw[IC,BB]
 have z3:(AO (AB m.toNat 3)).size=3:=by rw[IC,BB]
 have z4:(AO (AB d.toNat 5)).size=5:=by rw[IC,BB]
 have zi:(AO (JP inter)).size=1:=by rw[IC];exact BB _ _
 generalize AO (BR 0)=q at L s z0;generalize AO (AB l.toNat 8)=t at c1 s z1;generalize AO (AB c.toNat 3)=D at c2 s z2;generalize AO (AB m.toNat 3)=J at c3 s z3;generalize AO (AB d.toNat 5)=aa at c4 s z4;obtain⟨I,hI⟩:=Ah (AO (JP inter));rw[hI] at s ai zi;have hg:=Ps a;have bc:=Dp (fun j (hj:j<=gap a)=>(by
  unfold gap at hj ⊢;rw[I6,Fl,Fi];omega:(((a:Int)+(j:Nat))%8 != 0)=decide (j<gap a)))
 have az:=Dp (fun j=>(by rw[show (⟨#[48]⟩:ByteArray)=AO [48] from rfl,MN,Cd]:AO (List.replicate j 48)++(⟨#[48]⟩:ByteArray)=AO (List.replicate (j+1) 48)));have SZ:=Dp (fun j=>(by rw[IC,Bl]:(AO (List.replicate j 48)).size=j));have a0:Hid ((⟨#[]⟩:ByteArray)=AO (List.replicate 0 48)):=Dp rfl
 obtain⟨R,hR⟩:∃R:Nat->ByteArray,(fun j=>AO (List.replicate j 48))=R:=⟨_,rfl⟩;have eR:∀j,AO (List.replicate j 48)=R j:=fun j=>by rw[<-hR]
 simp only[eR] at s az SZ a0;clear eR hR hI;have af:Hid (∀j,j<b.length->AO (o++DH (b.take j))++(⟨#[49]⟩:ByteArray)++AO (AB (b.getD j 0).toNat 8)=AO (o++DH (b.take (j+1)))):=Dp fun j hj=>by
  rw[show (⟨#[49]⟩:ByteArray)=AO (AB 1 1) from rfl,MN,MN,<-Vo hj];simp only[Bd]
 have ag:Hid (∀j,j<=b.length->(AO (o++DH (b.take j))).size=gap a+49+9*j):=Dp fun j hj=>by
  rw[IC,B9,S3,Bf,H];omega
 have aj:Hid (∀j,(AO (AB (b.getD j 0).toNat 8)).size=8):=Dp fun j=>by rw[IC,BB]
 have ak:Hid (AO o=AO (o++DH (b.take 0))):=Dp (by rw[Bi];show _=AO (o++[]);rw[Fb]);have ah:Hid (AO (o++DH (b.take b.length))++(⟨#[48]⟩:ByteArray)=AO ay):=Dp (by
  rw[J1,show (⟨#[48]⟩:ByteArray)=AO (AB 0 1) from rfl,MN,<-G,Bd])
 have al:=Dp c8;obtain⟨V,hV⟩:∃V:Nat->ByteArray,(fun j=>AO (o++DH (b.take j)))=V:=⟨_,rfl⟩;have eV:∀j,AO (o++DH (b.take j))=V j:=fun j=>by rw[<-hV]
 simp only[eV] at af ag ak ah;rw[ak.out] at s;have ab:=Dp s;have M:=Dp ai;clear eV hV C G H s Z B r W hm c8 ai ak r1 r2 f1 f2 q1 q2 m1 m2;generalize gap a=g at *;obtain⟨A,hA⟩:=Ah w.heap.size
 obtain⟨f,u⟩:=Ah (w.alloc (.cells #[.int .i64 l,.int .i64 c,.int .i64 m,.bool inter,.int .i64 d,.slice p b.length cap,K,.int .i64 z] 39 (0,0)));have E:Below w.heap.size w f:=by rw[<-u];exact(Dq _ w).alloc (Ba _) _
 have N:f.heap[A]? =some (.cells [.int .i64 l,.int .i64 c,.int .i64 m,.bool inter,.int .i64 d,.slice p b.length cap,K,.int .i64 z].toArray 39 (0,0)):=by rw[<-u,<-hA];exact heap_alloc_new w _
 have n:A<f.heap.size:=by rw[<-u,<-hA];simp
 have a1:Hid (∀x,Below f.heap.size f x->x.cell? ⟨A,0,none⟩=some (.int .i64 l)):=Dp fun x k=>AA ((k.block A n).trans N) rfl;have a2:Hid (∀x,Below f.heap.size f x->x.cell? ⟨A,1,none⟩=some (.int .i64 c)):=Dp fun x k=>AA ((k.block A n).trans N) rfl
 have a3:Hid (∀x,Below f.heap.size f x->x.cell? ⟨A,2,none⟩=some (.int .i64 m)):=Dp fun x k=>AA ((k.block A n).trans N) rfl;have a4:Hid (∀x,Below f.heap.size f x->x.cell? ⟨A,4,none⟩=some (.int .i64 d)):=Dp fun x k=>AA ((k.block A n).trans N) rfl
 have bd:Hid (∀x,Below f.heap.size f x->x.cell? ⟨A,5,none⟩=some (.slice p b.length cap)/\CA x p b/\Below w.heap.size w x):=Dp fun x k=>⟨AA ((k.block A n).trans N) rfl,(hs.below E).below k,E.trans (k.mono E.size)⟩;have k3:f.cell? ⟨A,3,none⟩=some (.bool inter):=AA N rfl
 have a5:=Dp (fun x (k:Below f.heap.size f x)=>((c1 x).mono fun e y h=>⟨h.1,h.2▸k⟩:A9 prog 62 #[.int .i64 l,.int .i64 8] x fun e y=>e=.returned (.string t)/\Below f.heap.size f y))
 have a6:=Dp (fun x (k:Below f.heap.size f x)=>((c2 x).mono fun e y h=>⟨h.1,h.2▸k⟩:A9 prog 62 #[.int .i64 c,.int .i64 3] x fun e y=>e=.returned (.string D)/\Below f.heap.size f y))
 have a7:=Dp (fun x (k:Below f.heap.size f x)=>((c3 x).mono fun e y h=>⟨h.1,h.2▸k⟩:A9 prog 62 #[.int .i64 m,.int .i64 3] x fun e y=>e=.returned (.string J)/\Below f.heap.size f y))
 have a8:=Dp (fun x (k:Below f.heap.size f x)=>((c4 x).mono fun e y h=>⟨h.1,h.2▸k⟩:A9 prog 62 #[.int .i64 d,.int .i64 5] x fun e y=>e=.returned (.string aa)/\Below f.heap.size f y));have a9:=Dp (fun x (k:Below f.heap.size f x)=>((L x).mono fun e y h=>⟨h.1,h.2▸k⟩:A9 prog 43 #[.int .i64 0] x fun e y=>e=.returned (.string q)/\Below f.heap.size f y))
 have am:=Dp u;have bf:=Dp hA;clear u hA hs N E n L c1 c2 c3 c4
 go_enter func76,ntmps76
 go_wp2
 rw[am.out,bf.out]
 go_loop [5] (fun v=>∃j:Nat,j<=g/\v=.string (R j)) (fun v=>g-(match v with|.string x=>x.size|_=>0))
 case atStart=>exact⟨0,Ds _,by rw[a0.out]⟩
 case round=>
  obtain⟨j,hj,rfl⟩:=hrel;have hd:=bc.out j hj;have hs:=SZ.out j;have hn:=az.out j;have F:=SZ.out (j+1);by_cases an:j<g
  ·obtain⟨Y,hY⟩:=Ah (R (j+1));rw[hY] at hn F;have ao:=Dp hn;have bg:=Dp hY;clear hn hY;obtain⟨X,O⟩:=Ah (R j);rw[O] at hs ao ⊢;have d0:(((a:Int)+(X.size:Int))%8 != 0)=true:=by rw[hs,hd];simpa using an
   have ac:X.size<=8:=by omega
   have bk:=Dp O;have bh:=Dp F;clear hd O F
   go_wp2
   go_round
   case rel=>exact⟨j+1,by omega,by rw[ao.out,bg.out]⟩
   case measure=>rw[ao.out];have:=bh.out;simp only;omega
  ·obtain rfl:j=g:=by omega
   obtain⟨X,O⟩:=Ah (R j);rw[O] at hs ⊢;have d0:(((a:Int)+(X.size:Int))%8 != 0)=false:=by rw[hs,hd];simp
   have ac:X.size<=8:=by omega
   have ba:=Dp O;clear hd hs O F hn
   go_upto_if 17 with fail
   go_cut [6] (fun v wz=>v=.string I/\wz=f)
   case first=>
    have ei:=M.out;clear M;cases inter with
    |true=>
     rw[Bc rfl] at ei;subst ei
     go_wp2
     go_meet
     case rel=>exact⟨rfl,by trivial⟩
    |false=>
     rw[Bb (by decide)] at ei;subst ei
     go_wp2
     go_meet
     case rel=>exact⟨rfl,by trivial⟩
   case rest=>
    obtain⟨rfl,ad⟩:=hcut;rw[ad];clear ad k3;have si:I.size<=1:=by omega
    have s0:q.size<=22:=by omega
    have s1:t.size<=8:=by omega
    have s2:D.size<=3:=by omega
    have s3:J.size<=3:=by omega
    have s4:aa.size<=5:=by omega
    clear z0 z1 z2 z3 z4 zi
    go_wp2
    refine BY (S:=fun x=>Below f.heap.size f x) 25 (by kernel_rfl) (by kernel_rfl) (Dq _ _).drew ?_;simp only[Dt,Bi,Hb,I0];refine AG ?_;simp only[A1];refine AS (by kernel_rfl) a9.out (fun _=>by kernel_rfl) ?_;simp only[A1]
    refine AP (v:=.string (X++q)) (by kernel_rfl) (fun x _=>by go_simp;first|omega|trivial) ?_;simp only[A1];refine AG ?_;simp only[A1];refine AN 3 _ ⟨A,0,none⟩ (.int .i64 l) (by kernel_rfl) rfl rfl (fun x k=>by have L:=a1.out x k;go_simp) ?_;simp only[A1];refine AS (by kernel_rfl) a5.out (fun _=>by kernel_rfl) ?_;simp only[A1]
    refine AP (v:=.string ((X++q)++t)) (by kernel_rfl) (fun x _=>by go_simp;first|omega|trivial) ?_;simp only[A1];refine AP (v:=.string (((X++q)++t)++⟨#[49,48]⟩)) (by kernel_rfl) (fun x _=>by go_simp;first|omega|trivial) ?_;simp only[A1];refine AG ?_;simp only[A1]
    refine AN 3 _ ⟨A,1,none⟩ (.int .i64 c) (by kernel_rfl) rfl rfl (fun x k=>by have L:=a2.out x k;go_simp) ?_;simp only[A1];refine AS (by kernel_rfl) a6.out (fun _=>by kernel_rfl) ?_;simp only[A1];refine AP (v:=.string ((((X++q)++t)++⟨#[49,48]⟩)++D)) (by kernel_rfl) (fun x _=>by go_simp;first|omega|trivial) ?_;simp only[A1];refine AG ?_;simp only[A1]
    refine AN 3 _ ⟨A,2,none⟩ (.int .i64 m) (by kernel_rfl) rfl rfl (fun x k=>by have L:=a3.out x k;go_simp) ?_;simp only[A1];refine AS (by kernel_rfl) a7.out (fun _=>by kernel_rfl) ?_;simp only[A1];refine AP (v:=.string (((((X++q)++t)++⟨#[49,48]⟩)++D)++J)) (by kernel_rfl) (fun x _=>by go_simp;first|omega|trivial) ?_;simp only[A1];refine AG ?_;simp only[A1]
    refine AP (v:=.string ((((((X++q)++t)++⟨#[49,48]⟩)++D)++J)++I)) (by kernel_rfl) (fun x _=>by go_simp;first|omega|trivial) ?_;simp only[A1];refine AP (v:=.string (((((((X++q)++t)++⟨#[49,48]⟩)++D)++J)++I)++⟨#[48,48,48,48]⟩)) (by kernel_rfl) (fun x _=>by go_simp;first|omega|trivial) ?_;simp only[A1];refine AG ?_;simp only[A1]
    refine AN 3 _ ⟨A,4,none⟩ (.int .i64 d) (by kernel_rfl) rfl rfl (fun x k=>by have L:=a4.out x k;go_simp) ?_;simp only[A1];refine AS (by kernel_rfl) a8.out (fun _=>by kernel_rfl) ?_;simp only[A1];refine AP (v:=.string ((((((((X++q)++t)++⟨#[49,48]⟩)++D)++J)++I)++⟨#[48,48,48,48]⟩)++aa)) (by kernel_rfl) (fun x _=>by go_simp;first|omega|trivial) ?_;simp only[A1]
    refine AP (v:=.string (((((((((X++q)++t)++⟨#[49,48]⟩)++D)++J)++I)++⟨#[48,48,48,48]⟩)++aa)++⟨#[48]⟩)) (by kernel_rfl) (fun x _=>by go_simp;first|omega|trivial) ?_;simp only[A1];refine AG ?_;simp only[A1];refine BV fun x1 ap=>?_;have aq:=ab.out;rw[ba.out] at aq;rw[show (((((((((X++q)++t)++⟨#[49,48]⟩)++D)++J)++I)++⟨#[48,48,48,48]⟩)++aa)++⟨#[48]⟩)=V 0 from aq]
    clear aq ab ba a9 a5 a6 a7 a8 a1 a2 a3 a4 si s0 s1 s2 s3 s4 ac d0 M;obtain⟨k5,P,ar⟩:=bd.out _ ap
    go_wp2
    go_loop [5,7] (fun v i=>∃j:Nat,j<=b.length/\v=.string (V j)/\i=.int .i64 j) (fun _ i=>b.length-(intOf i).toNat)
    case atStart=>exact⟨0,Ds _,rfl,rfl⟩
    case round=>
     obtain⟨i,hi,rfl,rfl⟩:=hrel;have bi:=ag.out i hi;by_cases Q:i<b.length
     ·have t1:decide ((i:Int)<(b.length:Int))=true:=by simp;omega
      obtain⟨b1,o1,rfl,bj,ae⟩:=P.hold (by omega);have k0:=ae _ (Dq _ _) i Q;have cc:=al.out i Q;have sf:=af.out i Q;have s8:=aj.out i;clear ae al af aj ag ah P;generalize AO (AB (b.getD i 0).toNat 8)=T at cc sf s8;generalize b.getD i 0=x at cc k0;obtain⟨bl,U⟩:=Ah (V (i+1));rw[U] at sf;have au:=Dp sf;have av:=Dp U;clear sf U
      generalize V i=aw at *;have u1:aw.size<=200:=by omega
      have u2:T.size<=8:=by omega
      go_wp2_with fail
      refine(cc _).mono ?_;rintro e y1 ⟨rfl,rfl⟩
      go_wp2
      go_round
      case rel=>exact⟨i+1,by omega,by rw[au.out,av.out],by go_num⟩
      case measure=>simp[intOf];omega
     ·obtain rfl:b.length=i:=by omega
      have t1:decide ((b.length:Int)<(b.length:Int))=false:=by simp
      have ax:=Dp ah.out;clear al af aj ag ah P;generalize V b.length=aw at *;have u1:aw.size<=200:=by omega
      go_wp2
      go_ret
      rw[ax.out];exact⟨rfl,ar⟩
end
section
open Go.RowKit Go.Lib Go.ChangeShapes Go.WideShapes Go.ChangeAt
def CD {α:Type}(c:Nat)(V:A5->α->List A0->Prop)(w:A5)(q:Option Aa)(l:List α):Prop:=
 l=[]\/∃b o,q=some ⟨b,o,none⟩/\b<w.heap.size/\∀i,(h:i<l.length)->∃vs,V w l[i] vs/\∀(j:Nat) v,vs[j]? =some v->w.cell? ⟨b,o+i*c+j,none⟩=some v
theorem CD.below {α:Type}{c:Nat}{V:A5->α->List A0->Prop}{w x:A5}{q:Option Aa}{l:List α}(h:CD c V w q l)(e:∀a vs,V w a vs->V x a vs)(d:Below w.heap.size w x):CD c V x q l:=by
 rcases h with h|⟨b,o,rfl,hl,h⟩
 ·exact .inl h
 ·refine .inr ⟨b,o,rfl,Bg hl d.size,fun i hi=>?_⟩;obtain⟨vs,h1,h2⟩:=h i hi;exact⟨vs,e _ _ h1,fun j v hj=>(G3 (a:=⟨b,o+i*c+j,none⟩) (d.block b hl)).trans (h2 j v hj)⟩
theorem CD.hold {α:Type}{c:Nat}{V:A5->α->List A0->Prop}{w:A5}{q:Option Aa}{l:List α}(h:CD c V w q l)(d:0<l.length):
  ∃b o,q=some ⟨b,o,none⟩/\b<w.heap.size/\∀x,Below w.heap.size w x->∀i,(h:i<l.length)->∃vs,V w l[i] vs/\∀(j:Nat) v,vs[j]? =some v->x.cell? ⟨b,o+i*c+j,none⟩=some v:=by
 rcases h with rfl|⟨b,o,rfl,hl,h⟩
 ·cases d
 ·refine⟨b,o,rfl,hl,fun x e i hi=>?_⟩;obtain⟨vs,h1,h2⟩:=h i hi;exact⟨vs,h1,fun j v hj=>(G3 (a:=⟨b,o+i*c+j,none⟩) (e.block b hl)).trans (h2 j v hj)⟩
theorem SB {α:Type}[Inhabited α]{c:Nat}{V:A5->α->List A0->Prop}{w:A5}{q:Option Aa}{n:Nat}(h:SQ w (fun vs=>∃a,V w a vs) c q n):∃l:List α,l.length=n/\CD c V w q l:=by
 rcases h with rfl|⟨b,o,rfl,hl,h⟩
 ·exact⟨[],rfl,.inl rfl⟩
 ·have each:∀i,∃a:α,i<n->∃vs,V w a vs/\∀(j:Nat) v,vs[j]? =some v->w.cell? ⟨b,o+i*c+j,none⟩=some v:=by
   intro i;by_cases hi:i<n
   ·obtain⟨vs,_,⟨a,f⟩,hv⟩:=h i hi;exact⟨a,fun _=>⟨vs,f,hv⟩⟩
   ·exact⟨default,fun h=>absurd h hi⟩
  refine⟨(List.range n).map fun i=>(each i).choose,by simp,.inr ⟨b,o,rfl,hl,fun i hi=>?_⟩⟩;have d:i<n:=by simpa using hi
  have e:((List.range n).map fun i=>(each i).choose)[i]=(each i).choose:=by simp
  rw[e];exact(each i).choose_spec d
instance:Inhabited Cel:=⟨Ec⟩
def F5 (w:A5)(c:Cel)(vs:List A0):Prop:=
 ∃(p:Nat->Option Aa) (cap:Nat->Nat),vs=AJ c (fun i=>.slice (p i) (c.ev i).length (cap i))/\((Lit.int .i64 c.mx).wf=true/\(Lit.int .i64 c.my).wf=true)/\∀i,i<6->(c.ev i).length<=maxLen/\D3 w (p i) (c.ev i)
theorem F5.below {w x:A5}(a:Below w.heap.size w x)(c:Cel)(vs:List A0)(h:F5 w c vs):F5 x c vs:=by
 obtain⟨p,cap,h1,h2,h3⟩:=h;exact⟨p,cap,h1,h2,fun i hi=>⟨(h3 i hi).1,(h3 i hi).2.below a⟩⟩
def LS:A5->Option Aa->List Cel->Prop:=CD 18 F5
theorem LS.below {w x:A5}{q:Option Aa}{l:List Cel}(h:LS w q l)(a:Below w.heap.size w x):LS x q l:=CD.below h (F5.below a) a
structure RowP where
 head:Bool
 id:Int
 quant:Int
 cels:List Cel
instance:Inhabited RowP:=⟨⟨false,0,0,[]⟩⟩
def LP (w:A5)(r:RowP)(vs:List A0):Prop:=
 ∃(q:Option Aa) (cap:Nat),vs=[.bool r.head,.int .i64 r.id,.int .i64 r.quant,.slice q r.cels.length cap]/\(q=none->cap=0)/\r.cels.length<=maxLen/\LS w q r.cels
theorem LP.below {w x:A5}(a:Below w.heap.size w x)(r:RowP)(vs:List A0)(h:LP w r vs):LP x r vs:=by
 obtain⟨q,cap,h1,b,h2,h3⟩:=h;exact⟨q,cap,h1,b,h2,h3.below a⟩
def H0:A5->Option Aa->List RowP->Prop:=CD 4 LP
theorem H0.below {w x:A5}{q:Option Aa}{l:List RowP}(h:H0 w q l)(a:Below w.heap.size w x):H0 x q l:=CD.below h (LP.below a) a
structure ShP where
 hd:Shd
 rows:List RowP
 zeros:Int
def ShV (w:A5)(S:ShP)(vs:List A0):Prop:=
 ∃(a b:Option Aa) (ca cb:Nat),vs=Bx S.hd (.slice a S.hd.supp.length ca) (.slice b S.rows.length cb) S.zeros/\S.hd.supp.length<=maxLen/\S.rows.length<=maxLen/\CA w a S.hd.supp/\H0 w b S.rows
theorem ShV.below {w x:A5}(c:Below w.heap.size w x)(S:ShP)(vs:List A0)(h:ShV w S vs):ShV x S vs:=by
 obtain⟨a,b,ca,cb,h1,h2,h3,h4,d⟩:=h;exact⟨a,b,ca,cb,h1,h2,h3,h4.below c,d.below c⟩
section
variable {H:Type}{enc:A7×A0->H}{P:Program}
theorem mR {w:A5}{base a:Nat}{f:Nat->Bool}{b:Bool}{t e:A7}{n cap:Nat}{x:DataW H×List MemPlace}(ht:P.underlying t=some (.slice e))(g:DataW.trod enc P w base f b a t [.slice none n cap]=some x):cap=0:=by
 rcases Gk ht g with ⟨h1,_⟩|⟨h,c,d,m,i,D,j,h1,_⟩
 ·injection h1 with h1;injection h1
 ·injection h1 with h1;injection h1 with h1;cases h1
theorem xY {w:A5}{base:Nat}{f:Nat->Bool}{a:Bool}{t q d t2 t6 g r s:A7}{f0 f1 f2 f3 f4 f5 f6:Field}
  (ht:P.underlying t=some (.struct #[f0,f1,f2,f3,f4,f5,f6]))(H:P.underlying q=some .bool)(hi:P.underlying d=some (.int .i64))(h2:P.underlying t2=some (.array 2 d))(I:P.underlying t6=some (.array 6 d))(u:P.underlying g=some (.array 6 r))(hs:P.underlying r=some (.slice s))
  (e:f0.type=d/\f1.type=q/\f2.type=d/\f3.type=d/\f4.type=t2/\f5.type=t6/\f6.type=g)(o:f0.offset=0/\f1.offset=1/\f2.offset=2/\f3.offset=3/\f4.offset=4/\f5.offset=6/\f6.offset=12)
  (cb:P.cellsOf q=1)(n:P.cellsOf d=1)(cs:P.cellsOf r=1)(c2:P.cellsOf t2=2)(J:P.cellsOf t6=6)(v:P.cellsOf g=6)(j:P.cellsOf s=3)(l:∀k vs y,vs.length=3->DataW.trod enc P w base f a k s vs=some y->Lq vs):
  ∀k (vs:List A0) y,vs.length=18->DataW.trod enc P w base f a k t vs=some y->∃c,F5 w c vs:=by
 intro k vs y p h;obtain⟨K,m,hk,L,_,x,b⟩:=Gh ht h
 match vs,p,K,x with
 |[u0,u1,u2,u3,u4,u5,u6,u7,u8,u9,u10,u11,u12,u13,u14,u15,u16,u17],_,[y0,y1,y2,y3,y4,y5,y6],_=>
  have A:=b 0 f0 rfl;have B:=b 1 f1 rfl;have C:=b 2 f2 rfl;have D:=b 3 f3 rfl;have E:=b 4 f4 rfl;have F:=b 5 f5 rfl;have G:=b 6 f6 rfl;rw[e.1,o.1,n] at A;rw[e.2.1,o.2.1,cb] at B;rw[e.2.2.1,o.2.2.1,n] at C;rw[e.2.2.2.1,o.2.2.2.1,n] at D;rw[e.2.2.2.2.1,o.2.2.2.2.1,c2] at E;rw[e.2.2.2.2.2.1,o.2.2.2.2.2.1,J] at F;rw[e.2.2.2.2.2.2,o.2.2.2.2.2.2,v] at G
  obtain⟨M,rfl,_⟩:=GU hi (show DataW.trod _ P w base f a m d [u0]=some y0 from A);obtain⟨N,z,_⟩:=Gj H (show DataW.trod _ P w base f a m q [u1]=some y1 from B);injection z with z;subst z;obtain⟨O,rfl,_⟩:=GU hi (show DataW.trod _ P w base f a m d [u2]=some y2 from C);obtain⟨Q,rfl,_⟩:=GU hi (show DataW.trod _ P w base f a m d [u3]=some y3 from D)
  obtain⟨R,S,rfl,rfl,T,U⟩:=Y30 h2 hi n (show DataW.trod _ P w base f a m t2 [u4,u5]=some y4 from E);obtain⟨m',z0,z1,z2,z3,z4,z5,V,W,X,Y,Z,a5⟩:=Ym I n (show DataW.trod _ P w base f a m t6 [u6,u7,u8,u9,u10,u11]=some y5 from F);obtain⟨d0,rfl,_⟩:=GU hi V;obtain⟨d1,rfl,_⟩:=GU hi W;obtain⟨d2,rfl,_⟩:=GU hi X;obtain⟨d3,rfl,_⟩:=GU hi Y;obtain⟨d4,rfl,_⟩:=GU hi Z
  obtain⟨d5,rfl,_⟩:=GU hi a5;obtain⟨aa,ab,ac,ad,ae,af,ag,b0,b1,b2,b3,b4,b5⟩:=Ym u cs (show DataW.trod _ P w base f a m g [u12,u13,u14,u15,u16,u17]=some y6 from G);obtain⟨p0,n0,k0,rfl,l0,r0⟩:=LU 3 Lq hs j (by decide) l b0;obtain⟨p1,n1,k1,rfl,l1,r1⟩:=LU 3 Lq hs j (by decide) l b1;obtain⟨p2,n2,k2,rfl,l2,r2⟩:=LU 3 Lq hs j (by decide) l b2
  obtain⟨p3,n3,k3,rfl,l3,r3⟩:=LU 3 Lq hs j (by decide) l b3;obtain⟨p4,n4,k4,rfl,l4,r4⟩:=LU 3 Lq hs j (by decide) l b4;obtain⟨p5,n5,k5,rfl,l5,r5⟩:=LU 3 Lq hs j (by decide) l b5;obtain⟨v0,rfl,s0,_⟩:=P1 r0;obtain⟨v1,rfl,s1,_⟩:=P1 r1;obtain⟨v2,rfl,s2,_⟩:=P1 r2;obtain⟨v3,rfl,s3,_⟩:=P1 r3;obtain⟨v4,rfl,s4,_⟩:=P1 r4;obtain⟨v5,rfl,s5,_⟩:=P1 r5
  refine⟨⟨M,N,O,Q,R,S,six d0 d1 d2 d3 d4 d5,six v0 v1 v2 v3 v4 v5⟩,six p0 p1 p2 p3 p4 p5,six k0 k1 k2 k3 k4 k5,rfl,⟨T,U⟩,fun i hi=>?_⟩
  match i,hi with
  |0,_=>exact⟨l0,s0⟩
  |1,_=>exact⟨l1,s1⟩
  |2,_=>exact⟨l2,s2⟩
  |3,_=>exact⟨l3,s3⟩
  |4,_=>exact⟨l4,s4⟩
  |5,_=>exact⟨l5,s5⟩
theorem nE {w:A5}{base:Nat}{d:Nat->Bool}{a:Bool}{t l f g q:A7}{f0 f1 f2 f3:Field}
  (ht:P.underlying t=some (.struct #[f0,f1,f2,f3]))(C:P.underlying l=some .bool)(hi:P.underlying f=some (.int .i64))(hs:P.underlying g=some (.slice q))
  (e:f0.type=l/\f1.type=f/\f2.type=f/\f3.type=g)(o:f0.offset=0/\f1.offset=1/\f2.offset=2/\f3.offset=3)
  (cb:P.cellsOf l=1)(x:P.cellsOf f=1)(cs:P.cellsOf g=1)(D:P.cellsOf q=18)(E:∀k vs y,vs.length=18->DataW.trod enc P w base d a k q vs=some y->∃c,F5 w c vs):
  ∀k (vs:List A0) y,vs.length=4->DataW.trod enc P w base d a k t vs=some y->∃r,LP w r vs:=by
 intro k vs y i h;obtain⟨F,m,M,G,_,s,b⟩:=Gh ht h
 match vs,i,F,s with
 |[u0,u1,u2,u3],_,[y0,y1,y2,y3],_=>
  have z:=b 0 f0 rfl;have A:=b 1 f1 rfl;have B:=b 2 f2 rfl;have u:=b 3 f3 rfl;rw[e.1,o.1,cb] at z;rw[e.2.1,o.2.1,x] at A;rw[e.2.2.1,o.2.2.1,x] at B;rw[e.2.2.2,o.2.2.2,cs] at u;obtain⟨H,v,_⟩:=Gj C (show DataW.trod _ P w base d a m l [u0]=some y0 from z);injection v with v;subst v
  obtain⟨I,rfl,_⟩:=GU hi (show DataW.trod _ P w base d a m f [u1]=some y1 from A);obtain⟨J,rfl,_⟩:=GU hi (show DataW.trod _ P w base d a m f [u2]=some y2 from B);obtain⟨p,n,cap,rfl,hl,hr⟩:=LU 18 (fun vs=>∃c,F5 w c vs) hs D (by decide) E (show DataW.trod _ P w base d a m g [u3]=some y3 from u)
  have j:p=none->cap=0:=fun e=>by subst e;exact mR hs (show DataW.trod _ P w base d a m g [.slice none n cap]=some y3 from u)
  obtain⟨L,rfl,K⟩:=SB hr;exact⟨⟨H,I,J,L⟩,p,cap,rfl,j,hl,K⟩
theorem gP {w:A5}{base:Nat}{d:Nat->Bool}{a:Bool}{t c l m s u:A7}{f0 f1 f2 f3 f4 f5 f6 f7:Field}
  (ht:P.underlying t=some (.struct #[f0,f1,f2,f3,f4,f5,f6,f7]))(hi:P.underlying c=some (.int .i64))(J:P.underlying l=some .bool)(hs:P.underlying m=some (.slice c))(hr:P.underlying s=some (.slice u))
  (e:f0.type=c/\f1.type=c/\f2.type=c/\f3.type=l/\f4.type=c/\f5.type=m/\f6.type=s/\f7.type=c)(o:f0.offset=0/\f1.offset=1/\f2.offset=2/\f3.offset=3/\f4.offset=4/\f5.offset=5/\f6.offset=6/\f7.offset=7)
  (g:P.cellsOf c=1)(cb:P.cellsOf l=1)(cs:P.cellsOf m=1)(K:P.cellsOf s=1)(N:P.cellsOf u=4)(O:∀k vs y,vs.length=4->DataW.trod enc P w base d a k u vs=some y->∃r,LP w r vs):
  ∀k (vs:List A0) y,vs.length=8->DataW.trod enc P w base d a k t vs=some y->∃S,ShV w S vs:=by
 intro k vs y i h;obtain⟨Q,k,hk,R,_,v,b⟩:=Gh ht h
 match vs,i,Q,v with
 |[u0,u1,u2,u3,u4,u5,u6,u7],_,[y0,y1,y2,y3,y4,y5,y6,y7],_=>
  have B:=b 0 f0 rfl;have C:=b 1 f1 rfl;have D:=b 2 f2 rfl;have E:=b 3 f3 rfl;have F:=b 4 f4 rfl;have G:=b 5 f5 rfl;have H:=b 6 f6 rfl;have I:=b 7 f7 rfl;rw[e.1,o.1,g] at B;rw[e.2.1,o.2.1,g] at C;rw[e.2.2.1,o.2.2.1,g] at D;rw[e.2.2.2.1,o.2.2.2.1,cb] at E;rw[e.2.2.2.2.1,o.2.2.2.2.1,g] at F;rw[e.2.2.2.2.2.1,o.2.2.2.2.2.1,cs] at G
  rw[e.2.2.2.2.2.2.1,o.2.2.2.2.2.2.1,K] at H;rw[e.2.2.2.2.2.2.2,o.2.2.2.2.2.2.2,g] at I;obtain⟨T,rfl,_⟩:=GU hi (show DataW.trod _ P w base d a k c [u0]=some y0 from B);obtain⟨U,rfl,_⟩:=GU hi (show DataW.trod _ P w base d a k c [u1]=some y1 from C);obtain⟨V,rfl,_⟩:=GU hi (show DataW.trod _ P w base d a k c [u2]=some y2 from D)
  obtain⟨W,x,_⟩:=Gj J (show DataW.trod _ P w base d a k l [u3]=some y3 from E);injection x with x;subst x;obtain⟨X,rfl,_⟩:=GU hi (show DataW.trod _ P w base d a k c [u4]=some y4 from F);obtain⟨p,len,cap,f,rfl,hl,z⟩:=xZ hs hi g (show DataW.trod _ P w base d a k m [u5]=some y5 from G)
  obtain⟨q,n,j,rfl,hn,A⟩:=LU 4 (fun vs=>∃r,LP w r vs) hr N (by decide) O (show DataW.trod _ P w base d a k s [u6]=some y6 from H);obtain⟨Y,rfl,_⟩:=GU hi (show DataW.trod _ P w base d a k c [u7]=some y7 from I);obtain⟨L,rfl,Z⟩:=xH z;obtain⟨M,rfl,hM⟩:=SB A;exact⟨⟨⟨T,U,V,W,X,L⟩,M,Y⟩,p,q,cap,j,rfl,hl,hn,Z,hM⟩
end
end
end Go.Proofs.YtjjmalchelniiaaGreatDoor
