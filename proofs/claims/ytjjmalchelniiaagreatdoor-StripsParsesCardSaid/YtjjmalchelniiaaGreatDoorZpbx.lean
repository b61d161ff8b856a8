/- No condition. -/
import Derived.Test.YtjjmalchelniiaaGreatDoorZpa
import Derived.Test.YtjjmalchelniiaaGreatDoorZpl
import Derived.Test.YtjjmalchelniiaaGreatDoorZpo
import Derived.Test.YtjjmalchelniiaaGreatDoorZpw
import Derived.Test.YtjjmalchelniiaaGreatDoorZpx
import Derived.Test.YtjjmalchelniiaaGreatDoorZpy
import Derived.Test.YtjjmalchelniiaaGreatDoorZpz
import Derived.Test.YtjjmalchelniiaaGreatDoorZpbq
import Derived.Test.YtjjmalchelniiaaGreatDoorZpbr
import Derived.Test.YtjjmalchelniiaaGreatDoorZpbw
open Go.Proofs.Tryz
open Go renaming World->A5,Value->A0
set_option maxHeartbeats 16000000
namespace Go.Proofs.YtjjmalchelniiaaGreatDoor
open Go.RowKit Go.Lib
theorem Wf4{p:Prop}(h:p:=by
 clear cp
 go_wp2
 go_meet
 case rel=>exact⟨by rw[bc];rfl,xU⟩):p:=h
theorem Wf3{p:Prop}(h:p:=by
 clear cr
 go_wp2
 go_meet
 case rel=>exact⟨by rw[bc,d1,d2];rfl,xU⟩):p:=h
theorem Wf2{p:Prop}(h:p:=by
 rw[b] at a;injection a with a;injection a with _ a _;exact absurd a sY):p:=h
theorem Wf1{p:Prop}(h:p:=by
 rcases Ee.1 hk with e|e
 ·injection e with e;omega
 ·have:=IK.1 e;omega):p:=h
theorem Wf0{p:Prop}(h:p:=by
 refine Hb (B0 rfl _ _ A 39 _ (0,0) _ rfl ai Pk rfl O) rfl ?_;exact Qy an.out bi.out (G.grown al G.size fun k hk=>Wa7)):p:=h
theorem Wfz{p:Prop}(h:p:=by
 refine I.out _ _ J (fun F=>?_);clear I K d F;have d:=J
 try simp only[A1]
 refine Po (rs:=[8]) tN sV ?_;refine Pm rfl (fun K I=>?_) Pn
 go_simp
 go_wp2_with fail
 refine(ht.out _).mono ?_;rintro e v3 ⟨sl,rfl,af,T,B⟩;have ab:Below wr.heap.size wr v3:=J.trans (T.mono J.size);have b5:=(Am.1 gC).1;have gC:=(T.block C b5).trans gC;have ag:∀i,i<6->∃P cap,sl i=.slice P (c.ev i).length cap/\DR [some C] v3 P (c.ev i)/\CV wr.heap.size P:=fun i hi=>by
  obtain⟨P,cap,h1,h2,h3⟩:=af i hi;refine⟨P,cap,h1,⟨h2,?_⟩,h3.mono J.size⟩;rcases h2 with h2|⟨b,o,h2,h4,-⟩
  ·exact .inl h2
  ·exact .inr ⟨b,o,h2,fun hm=>Wa4⟩
 clear af b5;clear T;have aa:=Dm B;clear B;refine I.out _ _ ab (fun F=>?_);clear I K d F;have d:=ab
 try simp only[A1]
 refine AC 9 (some 99) d ?_
 try simp only[A1]
 refine AC 10 (some 109) d ?_
 try simp only[A1]
 refine AC 11 (some 110) d ?_
 try simp only[A1]
 refine AC 12 (some 111) d ?_
 try simp only[A1]
 refine Po (rs:=[14]) tN sV ?_;refine Pm rfl (fun K I=>?_) Pn;refine(Bb tN).mpr ?_;obtain⟨vS,b1,eS,am,b2⟩:=TZ (Z:=(AD c sl).toArray) gC ab au ab.size;have ae:(prog.info? 77).map (·.size)=some (AD c sl).toArray.size:=Wa3;have b3:bj.size=(AD c sl).toArray.size:=by rw[ej];rfl
 have b4:(AD c sl).toArray.all (·.oneCell')=true:=NE _ _ fun i hi=>Wa9;refine Pq 77 _ _ rfl C (AD c sl).toArray tN tN 77 bj gC ae b3 b4 ?_;rw[b1];refine I.out _ _ am (fun F=>?_);clear I K d F;have d:=am
 try simp only[Act.put,Ao]
 refine AC 15 (some 24) d ?_
 try simp only[Act.put]
 refine AC 16 (some 25) d ?_
 try simp only[Act.put]
 refine Pr tN ?_ _
 go_wp2
 go_meet
 case rel=>
  refine⟨C,sl,rfl,rfl,rfl,eS,au,am,fun i hi=>?_,aa.out⟩;obtain⟨P,cap,h1,h2,h3⟩:=ag i hi;exact⟨P,cap,h1,(h2.kept b2 fun k hk=>Wa6).1,h3⟩):p:=h
theorem Wa2{p:Prop}(h:p:=by rw[e];exact Df.2 rfl):p:=h
theorem Wa3{p:Prop}(h:p:=by rw[show (AD c sl).toArray.size=18 from rfl];kernel_rfl):p:=h
theorem Wa4{p:Prop}(h:p:=by have e:=Df.1 hm;injection e with e;have h5:=h3 _ h2;simp only at h5;omega):p:=h
theorem Wa5{p:Prop}(h:p:=by have e:=Df.1 hm;injection e with e;omega):p:=h
theorem Wa6{p:Prop}(h:p:=by injection hk with hk;rw[hk];exact Df.2 rfl):p:=h
theorem Wa7{p:Prop}(h:p:=by injection hk with hk;have:=bo.out;omega):p:=h
theorem Wa8{p:Prop}(h:p:=by rw[Fj];exact hf):p:=h
theorem Wa9{p:Prop}(h:p:=by obtain⟨P,cap,h1,-,-⟩:=ag i hi;rw[h1];rfl):p:=h
theorem Wba{p:Prop}(h:p:=by rw[e];exact Ez ..):p:=h
abbrev Pw:=@wpList_buildTo
def WY (r:Cel×Nat×Int)(m:Nat)(w:A5)(e:Ending)(a:A5):Prop:=
 ∃sl:Nat->A0,e=.returned (.tuple #[.agg (AD r.1 sl).toArray,.int .i64 (r.2.1:Int),.int .i64 r.2.2])/\(∀i,i<6->∃P cap,sl i=.slice P (r.1.ev i).length cap/\CX a P (r.1.ev i)/\CV w.heap.size P)/\Below w.heap.size w a/\
  (r.2.2=0->r.2.1<=m/\((Lit.int .i64 r.1.mx).wf=true/\(Lit.int .i64 r.1.my).wf=true)/\∀i,i<6->(r.1.ev i).length<=1048576)
def Vb (ct:CelT)(s:ByteArray):Prop:=∀(inter:Bool) (p:Nat) (x y:Int) (w:A5),p<=8*s.size->
 Calls prog 68 #[.string ⟨(A2 s.data.toList).toArray⟩,.int .i64 (p:Int),.bool inter,.agg #[.int .i64 x,.int .i64 y]] w (WY (ct inter (A2 s.data.toList) x y p) (8*s.size) w)
def VB (ct:CelT)(l:List UInt8)(p:Nat)(w:A5)(e:Ending)(a:A5):Prop:=
 ∃vs,e=.returned (.tuple #[.agg vs.toArray,.int .i64 ((wtk ct l p).2.1:Int),.int .i64 (wtk ct l p).2.2])/\(∀(x:A5) (M:List (Option Nat)),(∀j,some j∈M->j<w.heap.size)->Yah M a x->ShV x (wtk ct l p).1 vs)/\Below w.heap.size w a
theorem Qy {ct:CelT}{l:List UInt8}{p:Nat}{w a:A5}{f:Int}{Y:Array A0}(b:#[.int .i64 0,.int .i64 0,.int .i64 0,.bool false,.int .i64 0,.slice none 0 0,.slice none 0 0,.int .i64 0]=Y)(h:wtk ct l p=(GR,p,f))(c:Below w.heap.size w a):VB ct l p w (.returned (.tuple #[.agg Y,.int .i64 (p:Int),.int .i64 f])) a:=by
 refine⟨AU EJ (.slice none 0 0) (.slice none 0 0) 0,?_,?_,c⟩
 ·rw[h,<-b];rfl
 ·rw[h];exact fun x _ _ _=>⟨none,none,0,0,rfl,Do _,Do _,BO.nil _ _,.inl rfl⟩
def K4:List A0:=[.int .i64 0,.int .i64 0,.int .i64 0,.bool false,.int .i64 0,.slice none 0 0,.slice none 0 0,.int .i64 0]
section
variable {L:List (Option Nat)}{w:A5}{A:Nat}
theorem DR.more {p:Option Addr}{l:List Ev}(h:DR L w p l)(d:w.heap[A]? =some (.cells K4.toArray 39 (0,0))):DR (some A::L) w p l:=by
 obtain⟨h1,h2⟩:=h;refine⟨h1,?_⟩;rcases h2 with h2|⟨b,o,rfl,m⟩
 ·exact .inl h2
 ·rcases h1 with h1|⟨r,s,e,n,hc⟩
  ·exact .inl (by first|exact h1|exact Dh h1)
  ·injection e with e;injection e with e1 e2;subst e1 e2;by_cases hl:l=[]
   ·exact .inl hl
   refine .inr ⟨b,o,rfl,fun hm=>?_⟩;rcases Ee.1 hm with e|e
   ·injection e with e;subst e;obtain⟨f,-,g⟩:=hc 0 (Kr.2 hl);rw[Cg,C6] at f g;have k:∀j v,w.cell? ⟨b,j,none⟩=some v->K4[j]? =some v:=fun j v hv=>by
     rcases Au j 8 with a|a
     ·have i:K4[j]? =some (K4[j]'a):=Fh a;have:=AA d i;rw[this] at hv;injection hv with hv;rw[i,hv]
     ·exfalso;have:w.cell? ⟨b,j,none⟩=none:=by
       unfold World.cell?;rw[d];simp[K4];omega
      rw[this] at hv;cases hv
    have c:=k _ _ f;have q:=k _ _ g;rcases Au o 8 with a|a
    ·match o,a with
     |0,_|1,_|2,_|4,_|5,_|6,_|7,_=>cases c
     |3,_=>cases q
    ·rw[Fr (by show 8<=o;exact a)] at c;cases c
   ·exact m e
theorem CQ.more {c:Cel}{vs:List A0}(h:CQ L w c vs)(a:w.heap[A]? =some (.cells K4.toArray 39 (0,0))):CQ (some A::L) w c vs:=by
 obtain⟨p,cap,h1,h2,h3⟩:=h;exact⟨p,cap,h1,h2,fun i hi=>⟨(h3 i hi).1,(h3 i hi).2.more a⟩⟩
theorem CT.more {r:RowP}{vs:List A0}(h:CT L w r vs)(b:w.heap[A]? =some (.cells K4.toArray 39 (0,0))):CT (some A::L) w r vs:=by
 obtain⟨sl,h1,h2,h3,h4⟩:=h;refine⟨sl,h1,AO.mono h2 fun _ _ hc=>hc.more b,h3,fun k hk hm=>?_⟩;rcases Ee.1 hm with e|e
 ·injection e with e;subst e;obtain⟨c,a⟩:=AO.typed h2 _ hk;exact Wf2
 ·exact h4 k hk e
theorem E3.more {v:A0}{l:List RowP}(h:E3 L w v l)(b:w.heap[A]? =some (.cells K4.toArray 39 (0,0))):E3 (some A::L) w v l/\∀k,v.ownBlock=some k->k≠A:=by
 refine⟨AO.mono h fun _ _ hc=>hc.more b,fun k hk e=>?_⟩;subst e;obtain⟨c,a⟩:=AO.typed h _ hk;exact Wf2
end
theorem Qhr:∃Y:Array A0,K4.toArray=Y/\Y.size=8/\∀w,(zeroValue 39).run prog w=.ok (.agg Y) w:=⟨K4.toArray,rfl,rfl,KL tN⟩
set_option maxRecDepth 100000 in
theorem Y3b (ct:CelT)(s:ByteArray)(aq:Vb ct s)(p:Nat)(hp:p<=8*s.size)(hs:s.size<=100000)(w:A5):
  Calls prog 35 #[.string ⟨(A2 s.data.toList).toArray⟩,.int .i64 (p:Int)] w (VB ct s.data.toList p w):=by
 have ds:s.data.toList.length=s.size:=rfl;have bk:=N7 s;have bl:=Ut s;have a5:=fun w=>Y6q s p hp hs w;have c4:=fun(q:Int) w=>eJ s q sX w;have cg:=fun(q:Nat) (n:Int) hq w=>nF s q n hq sX w;have cZ:=fun(q:Nat) hq h8 w=>gR s q hq h8 sX w;unfold Vb at aq;obtain⟨l,hl⟩:=Ah s.data.toList;simp only[hl] at ds bk bl a5 c4 cg cZ aq ⊢;obtain⟨S,hS⟩:∃S:ByteArray,(⟨(A2 l).toArray⟩:ByteArray)=S:=⟨_,rfl⟩;simp only[hS] at bk a5 c4 cg cZ aq ⊢;have ki:Hid (∀i (h:i<S.size),(A2 l)[i]? =some S[i]):=Dm (by subst hS;exact bl);have hw:=Dm bk;have ae:=Dm ds;have kj:=Dm c4;have h6:=Dm cg;have kk:=Dm cZ;have h7:=Dm aq;obtain⟨Y,e3,dt,kl⟩:=Qhr;have ia:=Dm e3;clear e3;obtain⟨jz,ib,km⟩:=Qfo;have ch:=To;obtain⟨di,bm⟩:∃Z:Array A0,#[.int .i64 0,.int .i64 0,.int .i64 0,.bool false,.int .i64 0,.slice none 0 0,.slice none 0 0,.int .i64 0]=Z:=⟨_,rfl⟩;have O:(prog.info? 39).map (·.size)=some di.size:=by rw[<-bm];kernel_rfl
 have aw:Y.size=di.size:=by rw[dt,<-bm];rfl
 have ax:di.all (·.oneCell')=true:=by rw[<-bm];simp[Value.oneCell']
 have an:=Dm bm;obtain⟨A,hA⟩:=Ah w.heap.size;obtain⟨wA,bn⟩:=Ah (w.alloc (.cells Y 39 (0,0)));have e4:wA.heap[A]? =some (.cells Y 39 (0,0)):=by rw[<-bn,<-hA];exact heap_alloc_new w _
 have e5:Below w.heap.size w wA:=by rw[<-bn];exact(Dn _ w).alloc (B9 _) _
 have e6:wA.heap.size=A+1:=by rw[<-bn,<-hA];simp
 have ic:=Dm bn;have bo:=Dm hA;unfold Vw at a5;obtain⟨⟨hd,z0,f⟩,hk⟩:=Ah (shk l p);rw[hk] at a5;dsimp only at a5;have du:=Dm hk;clear hl hS bl bk ds c4 cg cZ aq bm hA bn hk hp
 go_enter func35,ntmps35
 go_wp2_with fail
 rw[ic.out,bo.out];refine(a5 wA).mono ?_;rintro e w1 ⟨a,ca,rfl,bp,ci,cj⟩;have e7:Hid (∀x,a=some x->A<x.block):=Dm fun x hx=>by have:=cj x hx;rw[e6] at this;exact this
 clear cj;have bq:Below w.heap.size w w1:=e5.trans (ci.mono (by have:=bo.out;omega));have e8:=(ci.block A sX).trans e4;have ie:A+1<=w1.heap.size:=by have:=ci.size;omega
 clear a5 e5 e4 e6 ci;obtain⟨X,hX⟩:=Ah w1.heap.size;obtain⟨zs,a6⟩:=Ah (AU hd (.slice a hd.supp.length ca) (.slice none 0 0) 0);obtain⟨w2,br⟩:=Ah (w1.alloc (.cells zs.toArray 39 (0,0)));have cl:Below w1.heap.size w1 w2:=by rw[<-br];exact(Dn _ w1).alloc (B9 _) _
 have ig:w2.heap.size=X+1:=by rw[<-br,<-hX];simp
 have dv:w2.heap[X]? =some (.cells zs.toArray 39 (0,0)):=by rw[<-br,<-hX];exact heap_alloc_new w1 _
 have bs:=(cl.block A sX).trans e8;have ak:Below w.heap.size w w2:=bq.trans (cl.mono bq.size);have zf:zs[2]? =some (.int .i64 hd.fmt):=by rw[<-a6];rfl
 have e9:(prog.info? 39).map (·.size)=some zs.toArray.size:=by rw[show zs.toArray.size=8 by rw[<-a6];rfl];kernel_rfl
 have fa:Y.size=zs.toArray.size:=by rw[dt,<-a6];rfl
 have fb:zs.toArray.all (·.oneCell')=true:=by rw[<-a6];exact OI ..
 have ih:=Dm hX;have fc:=Dm br;have ii:=Dm a6;rw[a6];clear br a6 bq hX;by_cases hf:f=0
 case neg=>
  have tf:(f != 0)=true:=Wa8;have bi:=Dm (bN (ct:=ct) du.out hf);clear hf
  go_wp2_with (first|(with_reducible refine BL rfl 39 _ _ rfl zs.toArray Y 39 rfl rfl e9 fa fb ?_;rw[fc.out,ih.out])|(with_reducible refine Pw rfl 39 _ rfl (some 35) rfl #[.int .i64 0,.int .i64 0,.int .i64 0,.bool false,.int .i64 0,.slice none 0 0,.slice none 0 0,.int .i64 0] tN ?_;rw[an.out])|(with_reducible refine AK rfl 39 _ _ rfl A di Y rfl rfl 39 bs O aw ax ?_;intro wz ai al))
  refine Hb (B0 rfl _ _ A 39 _ (0,0) _ rfl ai Pk rfl O) rfl ?_;exact Qy an.out bi.out (ak.grown al ak.size fun k hk=>Wa7)
 subst hf;have tf:((0:Int) != 0)=false:=rfl;have dw:=fun w=>SG hd.fmt w;have fd:=fun w=>XC hd.fmt w;unfold NH at dw;have kf:=AA dv zf
 go_wp2_with (with_reducible refine BL rfl 39 _ _ rfl zs.toArray Y 39 rfl rfl e9 fa fb ?_;rw[fc.out,ih.out])
 refine(dw w2).mono ?_;rintro e w3 ⟨rfl,cm⟩;have hX:=ih.out;obtain⟨SZ,a7⟩:=Ah ([Value.int .i64 (DF hd.fmt),.int .i64 (DP hd.fmt),.int .i64 (BE hd.fmt),.int .i64 (BQ hd.fmt)]);have fe:SZ[2]? =some (.int .i64 (BE hd.fmt)):=by rw[<-a7];rfl
 have cn:SZ[3]? =some (.int .i64 (BQ hd.fmt)):=by rw[<-a7];rfl
 have ff:(prog.info? 81).map (·.size)=some SZ.toArray.size:=by rw[show SZ.toArray.size=4 by rw[<-a7];rfl];kernel_rfl
 have fg:jz.size=SZ.toArray.size:=by rw[ib,<-a7];rfl
 have fh:SZ.toArray.all (·.oneCell')=true:=by rw[<-a7];simp[Value.oneCell']
 rw[show (#[Value.int .i64 (DF hd.fmt),.int .i64 (DP hd.fmt),.int .i64 (BE hd.fmt),.int .i64 (BQ hd.fmt)]:Array A0)=SZ.toArray by rw[<-a7]];obtain⟨Z,hZ⟩:=Ah w3.heap.size;obtain⟨w4,bt⟩:=Ah (w3.alloc (.cells SZ.toArray 81 (0,0)));have fi:Below w3.heap.size w3 w4:=by rw[<-bt];exact(Dn _ w3).alloc (B9 _) _
 have ay:Below w2.heap.size w2 w4:=cm.trans (fi.mono cm.size);have fj:w4.heap[Z]? =some (.cells SZ.toArray 81 (0,0)):=by rw[<-bt,<-hZ];exact heap_alloc_new w3 _
 have ij:w4.heap.size=Z+1:=by rw[<-bt,<-hZ];simp
 have ik:X+1<=Z:=by have:=cm.size;omega
 have dx:=(ay.block X sX).trans dv;have il:=AA dx zf;have dj:Yqf w w4 A X Z Y SZ.toArray hd a ca (.slice none 0 0) (.slice none 0 0) [] [] (some X::E8 w.heap.size):={
  low:=ak.trans (ay.mono ak.size)
  res:=(ay.block A sX).trans bs
  sht:=by rw[ii.out];exact dx
  siz:=fj
  sup:=by
   refine⟨(bp.below cl).below ay,?_⟩;rcases bp with h|⟨b,o,e,bb,_⟩
   ·exact .inl (Dh h)
   ·refine .inr ⟨b,o,e,fun hm=>?_⟩;rcases Ee.1 hm with e2|e2
    ·injection e2 with e2;omega
    ·have h1:=IK.1 e2;have h2:A<b:=e7.out _ e;have:=bo.out;omega
  row:=E3.nil _ _
  vec:=Dj ..
  ord:=by have:=bo.out;omega
  inX:=Ez ..
  inR:=fun k hk=>zT
  inV:=fun k hk=>zT
  ne:=fun k hk=>zT
  off:=fun k hk=>by
   have:=bo.out;exact Wf1
  lows:=fun k hk=>Ey _ (IK.2 hk)
  own:=⟨by have:=bo.out;omega,(fun k hk=>zT),fun k hk=>zT⟩}
 have im:=Dm bt;have kn:=Dm hZ;clear bp cm fi bt hZ a7 dv bs ak cl ig ay e8 ie kf
 go_wp2_with (with_reducible refine BL rfl 81 _ _ rfl SZ.toArray jz 81 rfl rfl ff fg fh ?_;rw[im.out,kn.out])
 refine(fd w4).mono ?_;rintro e w5 ⟨rfl,fk⟩;have bu:=dj.move fk;have dk:∀k,some k∈some X::E8 w.heap.size->k<w5.heap.size:=fun k hk=>by
  have:=bu.ord;exact Wf1
 have fm:z0<=8*s.size:=by
  have h:=(Si du.out).2.2.2.1;rwa [AZ,ae.out] at h
 clear dj fk dx fj ij il ik hX dw fd;obtain⟨nr,fn⟩:∃n:Nat,(BE hd.fmt).toNat=n:=⟨_,rfl⟩;obtain⟨ko,kp,io,j5,k6⟩:=OU hd.fmt;have fo:BE hd.fmt=(nr:Int):=sX;obtain⟨E,hE⟩:=Ah (CB ct l hd.inter hd.fmt nr 0 z0 [] 0);have ho:=Dm hE;have j6:Hid (CZ E [] (CB ct l hd.inter hd.fmt nr 0 z0 [] 0)):=Dm (by rw[hE];exact CZ.start E);have ip:=Dm fn;have iq:=Dm ch;obtain⟨fl,dy⟩:=Ah (BQ hd.fmt);obtain⟨fr,dz⟩:=Ah (BE hd.fmt);have fp:=Dm dy;have kq:=Dm dz;rw[dy] at io j5 cn;rw[dz] at ko kp fo fe;clear hE fn dy dz ch;subst fo
 go_wp2
 go_loopw [8,10,11,14] (fun t v f iv wr=>∃(q i:Nat) (fs:Int) (rs:List RowP) (rv:A0) (vs:List (Int×Int)) (L:List (Option Nat)),t=.int .i64 (q:Int)/\f=.int .i64 fs/\iv=.int .i64 (i:Int)/\i<=nr/\q<=8*s.size/\Yqf w wr A X Z Y SZ.toArray hd a ca rv v rs vs L/\(∀k,some k∈L->k<wr.heap.size)/\rs.length=i/\vs.length<=i*10000/\(0<=fs/\fs<=10000)/\Hid (CZ E rs (CB ct l hd.inter hd.fmt (nr-i) i q vs fs))) (fun _ _ _ i _=>nr-(intOf i).toNat)
 case atStart=>exact⟨z0,0,0,[],_,[],_,rfl,rfl,rfl,Do _,fm,bu,dk,rfl,Do _,sX,j6⟩
 case round=>
  clear bu dk j6 fm;obtain⟨q,i,fs,rs,rv,vs,L,rfl,rfl,rfl,ao,hq,r,co,fq,d5,d6,hT⟩:=hrel;have k2:=AA r.siz fe;have k3:=AA r.siz cn;by_cases bb:i<nr
  ·have t1:decide ((i:Int)<(nr:Int))=true:=sU;have ar:=r.begins co;obtain⟨R,hR⟩:=Ah wr.heap.size;obtain⟨wB,d7⟩:=Ah (wr.alloc (.cells [.bool false,.int .i64 0,.int .i64 0,.slice none 0 0].toArray 46 (0,0)));rw[hR,d7] at ar;have j7:=Dm hR;have ft:=Dm d7;have ir:=Dm r;have iu:=Dm co;have cN:=kj.out (q:Int);have ch:=iq.out;have dl:=Dm fq;have dm:=Dm d5;obtain⟨⟨m,g⟩,hm⟩:=Ah (BA l (q:Int));rw[hm] at cN;have j8:=Dm hm;have iw:=Dm ao;clear hR d7 r co fq d5 hm ao
   go_wp2_with fail
   rw[ft.out,j7.out];refine(cN wB).mono ?_;rintro e u ⟨rfl,rfl⟩;clear cN ch;have d8:HI l i q=(decide (0<i)&&(g&&(m != 0&&m != 31))):=by unfold HI;rw[j8.out]
   go_upto_region 13 with fail
   go_cut [68] (fun v wx=>v=.bool (decide (0<i)&&(g&&(m != 0&&m != 31)))/\wx=wB)
   case first=>
    clear d8 ar;by_cases cp:0<i
    ·have d0:decide (0<(i:Int))=true:=sU;have bc:decide (0<i)=true:=sU;have kr:((i:Int) > 0)=True:=sU;cases g with
     |true=>
      by_cases cq:m=0
      ·have d1:(m != 0)=false:=by simp[cq]
       clear cq cp
       go_wp2
       go_meet
       case rel=>exact⟨by rw[bc,d1];rfl,xU⟩
      ·have d1:(m != 0)=true:=by simp[cq]
       clear cq cp;by_cases cr:m=31
       ·have d2:(m != 31)=false:=by simp[cr]
        exact Wf3
       ·have d2:(m != 31)=true:=by simp[cr]
        exact Wf3
     |false=>
      exact Wf4
    ·have d0:decide (0<(i:Int))=false:=sU;have bc:decide (0<i)=false:=sU;exact Wf4
   case rest=>
    obtain⟨rfl,fu⟩:=hcut;rw[fu];clear fu;rw[<-d8];clear d8;have fw:∀id qu z,hdk l q i=(id,qu,z,0)->z<=8*s.size:=fun id qu z h=>by
     have h1:=(Yg h).2.2.1;rwa [AZ,ae.out] at h1
    have d9:=Dm fw;clear fw
    go_upto_if 68 with fail
    go_cut [8,11] (fun t f wx=>∃(b:Bool) (id qu f2:Int) (q2:Nat),t=.int .i64 (q2:Int)/\f=.int .i64 f2/\q2<=8*s.size/\(0<=f2/\f2<=10000)/\Hid (F2 l hd.fmt i q fs=(b,id,qu,q2,f2,0))/\Yz5 w wx A X Z Y SZ.toArray hd a ca rv u10 rs vs R b id qu (.slice none 0 0) [] L (some R::L))
    case first=>
     cases hh:HI l i q with
     |false=>
      have e1:F2 l hd.fmt i q fs=(false,0,0,q,fs,0):=by unfold F2;rw[Ba (by rw[hh];decide)]
      have cu:=Dm e1;clear e1 hh
      go_wp2
      go_meet
      case rel=>exact⟨false,0,0,fs,q,rfl,rfl,hq,d6,cu,ar⟩
     |true=>
      obtain⟨⟨id,qu,z,f⟩,hk⟩:=Ah (hdk l q i);have e1:F2 l hd.fmt i q fs=(true,id,qu,z,(i:Int)*BQ hd.fmt,f):=by unfold F2;rw[Bb hh,hk]
      have c:=h6.out q i hq;rw[hk] at c;dsimp only at c;rw[fp.out] at e1;have cu:=Dm e1;have fx:=Dm hk;clear e1 hh hk
      go_wp2_with fail
      refine(c wB).mono ?_;rintro e u ⟨rfl,rfl⟩;clear c;by_cases hf:f=0
      case neg=>
       have ix:(f != 0)=true:=Wa8;have bs:=ar.out.res;have bi:Hid (wtk ct l p=(GR,p,f)):=Dm (by
        have h1:=hT.out;rw[show nr-i=(nr-i-1)+1 by omega] at h1;have h2:=Z3 h1 cu.out hf;refine W6 du.out ?_ hf;rw[ip.out,ho.out];exact h2)
       have G:=ar.out.low;have j9:=ar.out.ord;clear hf
       go_wp2_with (first|(with_reducible refine Pw rfl 39 _ rfl (some 80) rfl #[.int .i64 0,.int .i64 0,.int .i64 0,.bool false,.int .i64 0,.slice none 0 0,.slice none 0 0,.int .i64 0] tN ?_;rw[an.out])|(with_reducible refine AK rfl 39 _ _ rfl A di Y ?x1 ?x2 39 bs O aw ax ?_;(case x1=>kernel_rfl);(case x2=>kernel_rfl);intro wz ai al))
       exact Wf0
      subst hf;have ix:((0:Int) != 0)=false:=rfl;have hz:=d9.out id qu z fx.out;have p1:0<=(i:Int)*fl:=Lj sX io;have p2:(i:Int)*fl<=100*100:=Int.mul_le_mul sX j5 io sX;have wv:IntKind.i64.wrap ((i:Int)*fl)=(i:Int)*fl:=CE sX;obtain⟨hr,bv⟩:∃Y:Array A0,#[.bool true,.int .i64 id,.int .i64 qu,.slice none 0 0]=Y:=⟨_,rfl⟩;have r1:(prog.info? 46).map (·.size)=some hr.size:=by rw[<-bv];kernel_rfl
      have r2:([Value.bool false,.int .i64 0,.int .i64 0,.slice none 0 0]:List A0).toArray.size=hr.size:=by rw[<-bv];rfl
      have r3:hr.all (·.oneCell')=true:=by rw[<-bv];simp[Value.oneCell']
      have iy:=ar.rowc;have fy:=Dm bv;clear bv d9 fx
      go_wp2_with (first|(with_reducible refine Pw rfl 46 _ rfl (some 85) rfl #[.bool true,.int .i64 id,.int .i64 qu,.slice none 0 0] tN ?_;rw[fy.out])|(with_reducible refine AK rfl 46 _ _ rfl R hr _ rfl rfl 46 iy r1 r2 r3 ?_;intro wz ai al;rw[<-fy.out] at ai;have fz:=ar.head ai al;have kz:=AA fz.out.siz cn))
      go_meet
      case rel=>exact⟨true,id,qu,_,z,rfl,rfl,hz,⟨p1,sX⟩,cu,fz⟩
    case rest=>
     obtain⟨b,id,qu,f2,q2,rfl,rfl,az,iz,ea,ba⟩:=hcut;clear ar d9 hq d6;obtain⟨N,hN⟩:∃N:Nat,(BN hd.fmt).toNat=N:=⟨_,rfl⟩;obtain⟨eb,ec⟩:=Ah (CG ct l hd.inter hd.fmt f2 N q2 vs);have ed:BN hd.fmt=(N:Int)/\N<=10000:=by have:=PK hd.fmt;have:=(UF hd.fmt).1;omega
     have wm:IntKind.i64.wrap ((acr hd.fmt:Int)*fl)=(N:Int):=by
      have h1:=Qpi hd.fmt;rw[fp.out] at h1;rw[<-h1,ed.1];exact CE sX
     have ks:=ed.2;have ee:=Dm hN;have ef:=Dm ec;have ka:Hid (CZ eb [] (CG ct l hd.inter hd.fmt f2 N q2 vs)):=Dm (by rw[ec];exact CZ.start eb);clear hN ec ed;have bw:Hid (∀f:Int,f≠0->eb.2.2=f->wtk ct l p=(GR,p,f)):=Dm (fun f hf h2=>by
      have h1:=hT.out;rw[show nr-i=(nr-i-1)+1 by omega] at h1;have h3:=WI (cs:=eb.1) (q:=eb.2.1) (g:=f) h1 ea.out (by rw[ee.out,ef.out,<-h2]) hf;refine W6 du.out ?_ hf;rw[ip.out,ho.out];exact h3)
     have i0:([]:List Cel).length=0:=rfl
     go_wp2
     go_loopw [8,10,22] (fun t v jv wx=>∃(y j:Nat) (cs:List Cel) (cv:A0) (vz:List (Int×Int)) (L1 f0:List (Option Nat)),t=.int .i64 (y:Int)/\jv=.int .i64 (j:Int)/\j<=N/\y<=8*s.size/\Yz5 w wx A X Z Y SZ.toArray hd a ca rv v rs vz R b id qu cv cs L1 f0/\Hid (cs.length=j)/\Hid (vz=vs++CP cs)/\Hid (vz.length=vs.length+j)/\Hid (CZ eb cs (CG ct l hd.inter hd.fmt f2 (N-j) y vz))) (fun _ _ jv _=>N-(intOf jv).toNat)
     case atStart=>exact⟨q2,0,[],_,vs,_,_,rfl,rfl,Do _,az,ba,Dm rfl,Dm (by simp[CP]),Dm rfl,ka⟩
     case round=>
      clear ba ka az i0 k2 k3 ir iu ft j7 j8 iw t1;obtain⟨y,j,cs,cv,vz,L1,f0,rfl,rfl,hj,hy,U,cw,eg,cx,bd⟩:=hrel;have kt:=AA U.out.siz cn;by_cases i1:j<N
      ·obtain⟨vp,bx,i2,f1⟩:=Uy rfl U.out.vec;have f4:vz.length<=1048576:=by
        have:=cx.out;have:=dm.out;have:i*10000<=1000000:=sX;omega
       subst i2;obtain⟨⟨cy,c1⟩,eh⟩:=Ah (CY vz (AY hd.fmt) f2);have f5:(acr hd.fmt:Int)=AY hd.fmt:=(HY _).1;have cO:∀x,Below wr.heap.size wr x->Calls prog 69 #[.slice vp vz.length bx,.int .i64 (acr hd.fmt:Int),.int .i64 f2] x fun e w'=>e=.returned (.agg #[.int .i64 cy,.int .i64 c1])/\Below x.heap.size x w':=fun x hx=>by
        refine(jV (fun i=>vz.getD i (0,0)) vp vz.length bx (acr hd.fmt:Int) f2 x (f1.mono hx) tK sX).mono ?_;rintro e w' ⟨rfl,T⟩;refine⟨?_,T⟩;rw[f5];have h9:KR (fun i=>vz.getD i (0,0)) vz.length (AY hd.fmt) f2=(cy,c1):=eh;rw[h9]
        rfl
       have i3:=Dm cO;have cT:=fun x=>h7.out hd.inter y cy c1 x hy;obtain⟨⟨c,q3,f3⟩,aq⟩:=Ah (ct hd.inter (A2 l) cy c1 y);rw[aq] at cT;unfold WY at cT;dsimp only at cT;have ht:=Dm cT;have c2:=Dm (show ct hd.inter (A2 l) (CY vz (AY hd.fmt) f2).1 (CY vz (AY hd.fmt) f2).2 y=(c,q3,f3) by rw[eh];exact aq);have f6:=U.out.sht;have f8:=U.out.ord.2.2.1;have kb:Hid (∀x,Below wr.heap.size wr x->x.cell? ⟨X,3,none⟩=some (.bool hd.inter)):=Dm fun x hx=>AA (o:=3) ((hx.block X f8).trans f6) rfl;clear cO cT eh aq f1 f5 f6 f8;have ei:=Dm U;clear U
       go_upto_region 23 with fail
       go_cut [23,24,25] (fun u qv fv wx=>∃(C:Nat) (sl:Nat->A0),u=.pointer (some ⟨C,0,none⟩)/\qv=.int .i64 (q3:Int)/\fv=.int .i64 f3/\wx.heap[C]? =some (.cells (AD c sl).toArray 77 (0,0))/\wr.heap.size<=C/\Below wr.heap.size wr wx/\(∀i,i<6->∃P cap,sl i=.slice P (c.ev i).length cap/\CX wx P (c.ev i)/\CV wr.heap.size P)/\(f3=0->q3<=8*s.size/\((Lit.int .i64 c.mx).wf=true/\(Lit.int .i64 c.my).wf=true)/\∀i,i<6->(c.ev i).length<=1048576))
       case first=>
        obtain⟨bj,ej,ku⟩:=NX;have a0:Below wr.heap.size wr wr.drew:=(Dn _ wr).drew;refine Pp (S:=fun x=>Below wr.heap.size wr x) tN a0 (fun d=>?_);refine AC 0 (some 100) d ?_
        try simp only[A1]
        refine AC 1 (some 101) d ?_
        try simp only[A1]
        refine AC 2 (some 102) d ?_
        try simp only[A1]
        refine B2 3 (some 103) (v:=.bool hd.inter) rfl rfl d tN (fun x hx=>by have c0:=kb.out x hx;go_simp) ?_
        try simp only[A1]
        refine AC 4 (some 104) d ?_
        try simp only[A1]
        refine AC 5 (some 105) d ?_
        try simp only[A1]
        refine AC 6 (some 106) d ?_
        try simp only[A1]
        generalize wr.drew=v0 at d a0 ⊢;refine Po (rs:=[7,13]) tN sV ?_;refine Pm rfl (fun K I=>?_) (Pm rfl (fun K I=>?_) Pn)
        ·go_simp
         go_wp2_with fail
         refine(i3.out _ a0).mono ?_;rintro e v1 ⟨rfl,T⟩;have W:Below wr.heap.size wr v1:=a0.trans (T.mono a0.size);clear T;refine I.out _ _ W (fun F=>?_);clear I K d F;have d:=W
         try simp only[A1]
         refine Po (rs:=[8,13]) tN sV ?_;refine Pm rfl (fun K I=>?_) (Pm rfl (fun K I=>?_) Pn)
         ·go_simp
          go_wp2_with fail
          refine(ht.out _).mono ?_;rintro e v2 ⟨sl,rfl,af,T,B⟩;have J:Below wr.heap.size wr v2:=W.trans (T.mono W.size);have bz:∀i,i<6->∃P cap,sl i=.slice P (c.ev i).length cap/\CX v2 P (c.ev i)/\CV wr.heap.size P:=fun i hi=>by
           obtain⟨P,cap,h1,h2,h3⟩:=af i hi;exact⟨P,cap,h1,h2,h3.mono W.size⟩
          clear af;clear T;have aa:=Dm B;clear B;refine I.out _ _ J (fun F=>?_);clear I K d F;have d:=J
          try simp only[A1]
          refine AC 9 (some 99) d ?_
          try simp only[A1]
          refine AC 10 (some 109) d ?_
          try simp only[A1]
          refine AC 11 (some 110) d ?_
          try simp only[A1]
          refine AC 12 (some 111) d ?_
          try simp only[A1]
          refine Po (rs:=[13]) tN sV ?_;refine Pm rfl (fun K I=>?_) Pn
          go_simp
          obtain⟨C,hC⟩:=Ah v2.heap.size;obtain⟨v3,b0⟩:=Ah (v2.alloc (.cells bj 77 (0,0)));have gC:v3.heap[C]? =some (.cells bj 77 (0,0)):=by rw[<-b0,<-hC];exact heap_alloc_new v2 _
          have au:wr.heap.size<=C:=by rw[<-hC];exact J.size
          have ab:Below wr.heap.size wr v3:=by rw[<-b0];exact J.alloc J.size _
          have f9:Below v2.heap.size v2 v3:=by rw[<-b0];exact(Dn _ v2).alloc (B9 _) _
          have ag:∀i,i<6->∃P cap,sl i=.slice P (c.ev i).length cap/\DR [some C] v3 P (c.ev i)/\CV wr.heap.size P:=fun i hi=>by
           obtain⟨P,cap,h1,h2,h3⟩:=bz i hi;refine⟨P,cap,h1,⟨h2.below f9,?_⟩,h3⟩;rcases h2 with h2|⟨b,o,h2,h4,-⟩
           ·exact .inl h2
           ·exact .inr ⟨b,o,h2,fun hm=>Wa5⟩
          clear bz f9;rw[b0,hC];clear b0 hC;refine I.out _ _ ab (fun F=>?_);clear I K d F;have d:=ab
          try simp only[A1]
          refine Po (rs:=[14]) tN sV ?_;refine Pm rfl (fun K I=>?_) Pn;refine(Bb tN).mpr ?_;obtain⟨vS,b1,eS,am,b2⟩:=TZ (Z:=(AD c sl).toArray) gC ab au ab.size;have ae:(prog.info? 77).map (·.size)=some (AD c sl).toArray.size:=Wa3;have b3:bj.size=(AD c sl).toArray.size:=by rw[ej];rfl
          have b4:(AD c sl).toArray.all (·.oneCell')=true:=NE _ _ fun i hi=>Wa9;refine Pq 77 _ _ rfl C (AD c sl).toArray tN tN 77 bj gC ae b3 b4 ?_;rw[b1];refine I.out _ _ am (fun F=>?_);clear I K d F;have d:=am
          try simp only[Act.put,Ao]
          refine AC 15 (some 24) d ?_
          try simp only[Act.put]
          refine AC 16 (some 25) d ?_
          try simp only[Act.put]
          refine Pr tN ?_ _
          go_wp2
          go_meet
          case rel=>
           refine⟨C,sl,rfl,rfl,rfl,eS,au,am,fun i hi=>?_,aa.out⟩;obtain⟨P,cap,h1,h2,h3⟩:=ag i hi;exact⟨P,cap,h1,(h2.kept b2 fun k hk=>Wa6).1,h3⟩
         ·go_simp
          obtain⟨C,hC⟩:=Ah v1.heap.size;obtain⟨v2,hn2⟩:=Ah (v1.alloc (.cells bj 77 (0,0)));have gC:v2.heap[C]? =some (.cells bj 77 (0,0)):=by rw[<-hn2,<-hC];exact heap_alloc_new v1 _
          have au:wr.heap.size<=C:=by rw[<-hC];exact W.size
          have J:Below wr.heap.size wr v2:=by rw[<-hn2];exact W.alloc W.size _
          rw[hn2,hC];clear hn2 hC;exact Wfz
        ·go_simp
         obtain⟨C,hC⟩:=Ah v0.heap.size;obtain⟨v1,c3⟩:=Ah (v0.alloc (.cells bj 77 (0,0)));have gC:v1.heap[C]? =some (.cells bj 77 (0,0)):=by rw[<-c3,<-hC];exact heap_alloc_new v0 _
         have au:wr.heap.size<=C:=by rw[<-hC];exact a0.size
         have W:Below wr.heap.size wr v1:=by rw[<-c3];exact a0.alloc a0.size _
         rw[c3,hC];clear c3 hC;refine I.out _ _ W (fun F=>?_);clear I K d F;have d:=W
         try simp only[A1]
         refine Po (rs:=[7]) tN sV ?_;refine Pm rfl (fun K I=>?_) Pn
         go_simp
         go_wp2_with fail
         refine(i3.out _ W).mono ?_;rintro e v2 ⟨rfl,T⟩;have J:Below wr.heap.size wr v2:=W.trans (T.mono W.size);have gC:=(T.block C (Am.1 gC).1).trans gC;clear T;exact Wfz
       case rest=>
        clear kb ht i3;obtain⟨C,sl,rfl,rfl,rfl,hC,au,ga,bz,B⟩:=hcut;obtain⟨wk,rfl⟩:∃x,x=wc:=⟨_,rfl⟩;obtain⟨pf,cf,c8⟩:=ZZ bz;rw[aI (c:=c) fun i hi=>(c8 i hi).1] at hC;clear bz;have ao:=ei.out.move ga;have c9:=ei.out.lb;by_cases hf:f3=0
        case neg=>
         have i4:(f3 != 0)=true:=Wa8;have b6:=ao.out.res;have G:=ao.out.low;have bi:Hid (wtk ct l p=(GR,p,f3)):=Dm (bw.out f3 hf (by
          have h1:=bd.out;rw[show N-j=(N-j-1)+1 by omega] at h1;exact Yv h1 c2.out hf))
         clear hf B c8 hC ao c9
         go_wp2_with (first|(with_reducible refine Pw rfl 39 _ rfl (some 114) rfl #[.int .i64 0,.int .i64 0,.int .i64 0,.bool false,.int .i64 0,.slice none 0 0,.slice none 0 0,.int .i64 0] tN ?_;rw[an.out])|(with_reducible refine AK rfl 39 _ _ rfl A di Y ?x1 ?x2 39 b6 O aw ax ?_;(case x1=>kernel_rfl);(case x2=>kernel_rfl);intro wz ai al))
         exact Wf0
        subst hf;have i4:((0:Int) != 0)=false:=rfl;obtain⟨gb,gc,gd⟩:=B rfl;have i5:=Dm gd;have ek:=Dm c8;have i6:=Dm gc;have i7:=Dm gb;clear B gd c8 gc gb;have ck:=AA (o:=2) hC rfl;have i8:=AA (o:=2) ao.out.sht rfl;have b7:wk.rangeAt C 4 [.int .i64 c.mx,.int .i64 c.my]:=fun k v hk=>by
         match k,hk with
         |0,hk=>injection hk with hk;subst hk;exact AA (o:=4) hC rfl
         |1,hk=>injection hk with hk;subst hk;exact AA (o:=5) hC rfl
        go_upto_region 26 with fail
        go_cut [130] (fun v wx=>v=.bool (!D0 hd.fmt vz.length c)/\Below wk.heap.size wk wx)
        case first=>
         have cI:=fun w=>LX c.kind w;have cM:=fun w=>qB hd.fmt (vz.length:Int) c.mx c.my w;have a1:D0 hd.fmt vz.length c=(AG c.kind || H1 hd.fmt (vz.length:Int) c.mx c.my):=rfl;have i9:=Dn wk.heap.size wk;cases hik:AG c.kind with
         |true=>
          rw[hik] at cI a1;have el:Hid (D0 hd.fmt vz.length c=true):=Dm (by rw[a1];rfl);clear hik cM a1
          go_wp2_with fail
          refine(cI _).mono ?_;rintro e u ⟨rfl,rfl⟩;clear cI
          go_wp2
          go_meet
          case rel=>exact⟨(by rw[el.out];first|done|rfl),i9⟩
         |false=>
          rw[hik] at cI a1;have el:=Dm (a1.trans (Bool.false_or _));clear hik a1;generalize H1 hd.fmt (vz.length:Int) c.mx c.my=mv at *
          go_wp2_with fail
          refine(cI _).mono ?_;rintro e u ⟨rfl,rfl⟩;clear cI
          go_wp2_with (with_reducible refine cA tN _ rfl C 4 tN c.mx c.my b7 ?_)
          refine(cM _).mono ?_;rintro e u ⟨rfl,bf⟩;clear cM
          go_wp2
          go_meet
          case rel=>exact⟨(by rw[el.out];first|done|rfl),bf⟩
        case rest=>
         obtain⟨rfl,bf⟩:=hcut;clear ck i8 b7;have a2:=ao.move bf;have bg:=(bf.block C (Am.1 hC).1).trans hC;have ge:Hid (∀i,i<6->CX wc (pf i) (c.ev i)/\CV wr.heap.size (pf i)):=Dm fun i hi=>⟨(ek.out i hi).2.1.below bf,(ek.out i hi).2.2⟩;clear ek ao hC bf ga ei;cases hvy:D0 hd.fmt vz.length c with
         |false=>
          have b6:=a2.out.res;have G:=a2.out.low;have bi:Hid (wtk ct l p=(GR,p,8)):=Dm (bw.out 8 sY (by
           have h1:=bd.out;rw[show N-j=(N-j-1)+1 by omega] at h1;exact bM h1 c2.out hvy))
          clear hvy a2
          go_wp2_with (first|(with_reducible refine Pw rfl 39 _ rfl (some 131) rfl #[.int .i64 0,.int .i64 0,.int .i64 0,.bool false,.int .i64 0,.slice none 0 0,.slice none 0 0,.int .i64 0] tN ?_;rw[an.out])|(with_reducible refine AK rfl 39 _ _ rfl A di Y ?x1 ?x2 39 b6 O aw ax ?_;(case x1=>kernel_rfl);(case x2=>kernel_rfl);intro wz ai al))
          exact Wf0
         |true=>
          have ja:Hid (CZ eb (cs++[c]) (CG ct l hd.inter hd.fmt f2 (N-(j+1)) q3 (vz++[(c.mx,c.my)]))):=Dm (by
           have h1:=bd.out;rw[show N-j=(N-(j+1))+1 by omega] at h1;exact cW h1 c2.out hvy)
          clear hvy bd c2 bw;obtain⟨av,b8⟩:∃f:Nat->A0,(fun i=>Value.slice (pf i) (c.ev i).length (cf i))=f:=⟨_,rfl⟩;rw[b8] at bg;have jb:=Dm b8;clear b8;have b7:wc.rangeAt C 4 [.int .i64 c.mx,.int .i64 c.my]:=fun k v hk=>by
           match k,hk with
           |0,hk=>injection hk with hk;subst hk;exact AA (o:=4) bg rfl
           |1,hk=>injection hk with hk;subst hk;exact AA (o:=5) bg rfl
          obtain⟨wP,da⟩:=Ah (wc.alloc (.cells #[.int .i64 c.mx,.int .i64 c.my] 73 (0,0)));obtain⟨kc,em⟩:=Ah wc.heap.size;have db:Below wc.heap.size wc wP:=by rw[<-da];exact(Dn _ wc).alloc (B9 _) _
          have ah:=a2.move db;have gf:=(db.block C (Am.1 bg).1).trans bg;have en:wP.heap[kc]? =some (.cells ([Value.int .i64 c.mx,.int .i64 c.my]:List A0).toArray 73 (0,0)):=by rw[<-da,<-em];exact heap_alloc_new wc _
          have jc:=Dm (AA (o:=0) en rfl);have jd:=Dm (AA (o:=1) en rfl);have je:=Dm da;have jf:=Dm em;clear da em en;have gg:∀i,i<6->DR f0 wP (pf i) (c.ev i):=fun i hi=>by
           obtain⟨h1,h2⟩:=ge.out i hi;refine⟨h1.below db,?_⟩;rcases h1 with h1|⟨b',o,e,-,-⟩
           ·exact .inl h1
           ·refine .inr ⟨b',o,e,fun hm=>?_⟩;have h3:=c9 b' hm;have h4:=h2 _ e;simp only at h4;omega
          have gh:=Dm gg;have b9:=Dm ah;have eo:=Dm gf;have jg:=Dm c9;obtain⟨ti,j0,j1,j2,j3⟩:=VP;clear a2 bg gg ah gf c9 db ge
          go_upto_region 29 with (first|(with_reducible refine YZ rfl _ rfl C 4 tN c.mx c.my b7 ?_)|(at_builtin;rw[je.out,jf.out];refine eD (w:=wP) (K:=kc) (cap:=1) (v:=.slice vp vz.length bx) (n:=vz.length) (y0:=c.mx) (y1:=c.my) rfl rfl underlying98 j0 j1 rfl j2 j3 ?c5 b9.out.out.vec ?c0 jc.out jd.out f4 ?_;(case c5=>kernel_rfl);(case c0=>kernel_rfl);intro q8 dn w8 gi ac a3))
          have ah:=b9.out;have ap:=ah.vecs (v:=(c.mx,c.my)) ac gi a3;have jh:=(ac.block C (Am.1 eo.out).1 fun e=>by have:=jg.out C (ah.out.inV C e.symm).1;omega).trans eo.out;have ep:∀i,i<6->DR ((Value.slice q8 (vz.length+1) dn).ownBlock::f0) w8 (pf i) (c.ev i):=fun i hi=>by
           refine DR.kept ((gh.out i hi).mono fun k hk hn hm=>?_) ac fun k hk=>Ey _ (ah.out.inV k hk).1;rcases Ee.1 hm with e|e
           ·rcases a3 k e.symm with h2|h2
            ·exact hn (ah.out.inV k h2).1
            ·omega
           ·exact hn e
          obtain⟨kd,gj⟩:=Ah ((Value.slice q8 (vz.length+1) dn).ownBlock::f0);rw[gj] at ap ep;clear ah b9 eo gh gj gi ac a3 b7 j0 j1 j2 j3;obtain⟨wQ,dc⟩:=Ah (w8.alloc (.cells (AD c av).toArray 77 (0,0)));obtain⟨Q,hQ⟩:=Ah w8.heap.size;have eq:Below w8.heap.size w8 wQ:=by rw[<-dc];exact(Dn _ w8).alloc (B9 _) _
          have gl:wQ.heap[Q]? =some (.cells (AD c av).toArray 77 (0,0)):=by rw[<-dc,<-hQ];exact heap_alloc_new w8 _
          have a4:=ap.move eq;have a8:CQ kd wQ c (AD c av):=⟨pf,cf,by rw[jb.out],i6.out,fun i hi=>⟨by have:=i5.out i hi;unfold maxLen;omega,(ep i hi).kept (BF eq none) fun k hk=>zT⟩⟩;have er:=(CQ.shape a8).2;have ji:=(CQ.shape a8).1;have cb:∀(j:Nat) u,(AD c av)[j]? =some u->wQ.cell? ⟨Q,j,none⟩=some u:=fun j u hu=>AA gl hu;have kv:=AA (o:=3) ap.rowc rfl;have ae:(prog.info? 77).map (·.size)=some (AD c av).toArray.size:=by rw[show (AD c av).toArray.size=18 from rfl];kernel_rfl
          obtain⟨ri,rz,j0,j1,j2,j3,j4⟩:=Yi;have kw:cs.length<=10000:=by have:=cw.out;omega
          have jj:=Dm dc;have kx:=Dm hQ;have es:=Dm cb;clear dc hQ cb eq gl ap ep
          go_wp2_with (first|(with_reducible refine Nk rfl 77 _ rfl C tN 77 (AD c av).toArray (0,0) _ jh Io rfl ae ?_)|(with_reducible refine bX rfl _ rfl c av tN ?_;rw[jj.out,kx.out])|(at_builtin;refine O2 (V:=CQ kd wQ) (w:=wQ) (c:=18) (bytes:=240) (base:=0) (v:=cv) (l:=cs) (y:=c) (vs:=AD c av) (K:=Q) (cap:=1) rfl rfl Oy j0 j1 j2 j3 j4 sY ?d1 ?d2 a4.cel a8 ji er es.out ?d3 ?d4 (Do _) ?_;(case d1=>kernel_rfl);(case d2=>kernel_rfl);(case d3=>(unfold maxLen;omega));(case d4=>omega);intro q9 dp w9 et bh eu;have gm:=a4.cels bh et eu;have gn:=(bh.block R a4.rin.2.2.2.2 fun e=>(a4.cin R e.symm).2.2.1 rfl).trans a4.rowc;have c6:=AA (o:=3) gn rfl;have c7:=AL (o:=3) gn))
          go_roundw
          case rel=>exact⟨q3,j+1,cs++[c],_,vz++[(c.mx,c.my)],_,_,rfl,tP,sX,i7.out,gm,Dm (by rw[B8,cw.out];rfl),Dm (by rw[eg.out];simp[CP]),Dm (by rw[B8,cx.out];rfl),ja⟩
          case measure=>simp[intOf];omega
      ·obtain rfl:N=j:=sX;obtain⟨ev,gp,gq⟩:=U.done (by have:=cw.out;unfold maxLen;omega);have ew:=U.rowc;have gr:Hid (CG ct l hd.inter hd.fmt f2 (BN hd.fmt).toNat q2 vs=(cs,y,0)):=Dm (by
        have h1:=bd.out;rw[Ci] at h1;rw[ee.out,ef.out];exact h1.done)
       have jk:Hid (CZ E (rs++[⟨b,id,qu,cs⟩]) (CB ct l hd.inter hd.fmt (nr-(i+1)) (i+1) y vz f2)):=Dm (by
        have h1:=hT.out;rw[show nr-i=(nr-(i+1))+1 by omega] at h1;rw[eg.out];exact dO h1 ea.out gr.out)
       have a1:vz.length<=(i+1)*10000:=by have:=cx.out;have:=dm.out;omega
       clear U bd gr i1 hj hT ea ef ee cw eg cx;obtain⟨wD,dd⟩:=Ah (wr.alloc (.cells #[.bool b,.int .i64 id,.int .i64 qu,cv] 46 (0,0)));obtain⟨D,hD⟩:=Ah wr.heap.size;have de:Below wr.heap.size wr wD:=by rw[<-dd];exact(Dn _ wr).alloc (B9 _) _
       have gs:wD.heap[D]? =some (.cells ([Value.bool b,.int .i64 id,.int .i64 qu,cv]:List A0).toArray 46 (0,0)):=by rw[<-dd,<-hD];exact heap_alloc_new wr _
       have cc:=ev.move de;have gt:=gp.kept (BF de none) (fun k hk=>zT);have gu:∀k,some k∈L1->k<wD.heap.size:=fun k hk=>Bc (gq k hk) de.size;have cb:∀(j:Nat) u,([Value.bool b,.int .i64 id,.int .i64 qu,cv]:List A0)[j]? =some u->wD.cell? ⟨D,j,none⟩=some u:=fun j u hu=>AA gs hu;have ky:=AA (o:=6) ev.sht rfl;have jl:(prog.info? 46).map (·.size)=some ([Value.bool b,.int .i64 id,.int .i64 qu,cv]:List A0).toArray.size:=tN;obtain⟨ri,rz,j0,j1,j2,j3,j4⟩:=YF;have ke:rs.length<=100:=by have:=dl.out;omega
       have er:∀u∈([Value.bool b,.int .i64 id,.int .i64 qu,cv]:List A0),u.oneCell'=true:=CT.shape gt |>.2;have jm:=Dm dd;have k0:=Dm hD;clear dd hD ev gp gq de gs;have es:=Dm cb;have jn:=Dm gu;clear cb gu
       go_wp2_with (first|(with_reducible refine Nk rfl 46 _ rfl R rfl 46 ([Value.bool b,.int .i64 id,.int .i64 qu,cv]:List A0).toArray (0,0) _ ew Ip rfl jl ?_)|(with_reducible refine ZU rfl _ rfl (.bool b) (.int .i64 id) (.int .i64 qu) cv rfl ?_;rw[jm.out,k0.out])|(at_builtin;refine O2 (V:=CT L1 wD) (w:=wD) (c:=4) (bytes:=48) (base:=0) (v:=rv) (l:=rs) (y:=⟨b,id,qu,cs⟩) (vs:=[Value.bool b,.int .i64 id,.int .i64 qu,cv]) (K:=D) (cap:=1) rfl rfl underlying37 j0 j1 j2 j3 j4 sY ?d1 ?d2 cc.row gt rfl er es.out ?d3 ?d4 (Do _) ?_;(case d1=>kernel_rfl);(case d2=>kernel_rfl);(case d3=>(unfold maxLen;omega));(case d4=>omega);intro q9 dp w9 et bh eu;have gv:=cc.rows bh et eu;have gw:=(bh.block X cc.ord.2.2.1 fun e=>(cc.inR X e.symm).2 rfl).trans cc.sht;have c6:=AA (o:=6) gw rfl;have c7:=AL (o:=6) gw))
       go_roundw
       case rel=>
        refine⟨y,i+1,f2,_,_,vz,_,rfl,rfl,tP,sX,hy,gv,fun k hk=>?_,by rw[B8,dl.out];rfl,a1,iz,jk⟩;rcases Ee.1 hk with e|e
        ·exact AO.lt gv.row k e.symm
        ·have h1:=jn.out k e;have h2:=bh.size;have h3:=(D3 w9 ⟨X,6,none⟩ (Value.slice q9 (rs.length+1) dp)).size;omega
       case measure=>simp[intOf];omega
  ·have t1:decide ((i:Int)<(nr:Int))=false:=sU;obtain rfl:nr=i:=sX;have hR:CB ct l hd.inter hd.fmt (BE hd.fmt).toNat 0 z0 [] 0=(rs,q,0):=by
    have h1:=hT.out;rw[Ci] at h1;rw[ip.out,ho.out];exact h1.done
   have ex:=Dm hR;clear hR hT ho d5 d6 co k3;obtain⟨g,hg⟩:=Ah (gap q);have df:=S1 hq;have ey:=JJ l q (gap q) (by rw[ae.out];exact df);have gx:∀j:Nat,j<=g->(((q:Int)+j)%8 != 0)=decide (j<g):=by
    intro j hj;rw[<-hg] at hj ⊢;unfold gap at hj ⊢;rw[I7,Fj,Fg];omega
   have ac:(q+g)%8=0:=by rw[<-hg];unfold gap;omega
   rw[hg] at df ey;have bk:=hw.out;have kg:=Dm gx;have jo:=Dm ey;have jp:=Dm hg;have gy:=Dm ac;clear gx ey hg ac
   go_wp2
   go_loop [8] (fun t=>∃j:Nat,j<=g/\t=.int .i64 ((q:Int)+j)/\Hid (∀k,k<j->(A2 l)[q+k]? =some 48)) (fun t=>q+g-(intOf t).toNat)
   case atStart=>exact⟨0,Do _,sV,Dm fun k hk=>absurd hk (Fi k)⟩
   case round=>
    obtain⟨j,hj,rfl,H⟩:=hrel;have cd:=kg.out j hj;by_cases bb:j<g
    ·have d0:(((q:Int)+j)%8 != 0)=true:=by rw[cd];simpa using bb
     have ba:q+j<S.size:=sX;have T:=ki.out (q+j) ba;by_cases hc:S[q+j].toNat=48
     ·have c0:((S[q+j].toNat:Int) != 48)=false:=by rw[hc];rfl
      have he:S[q+j]=48:=Hp.1 hc;rw[he] at T;have N:=Dm (fun k (hk:k<j+1)=>(by
       rcases Au k j with h|h
       ·exact H.out k h
       ·obtain rfl:k=j:=sX;exact T:(A2 l)[q+k]? =some 48))
      clear T he hc cd
      go_wp2
      go_round
      case rel=>exact⟨j+1,sX,tP,N⟩
      case measure=>simp[intOf];omega
     ·have c0:((S[q+j].toNat:Int) != 48)=true:=uF;have bi:Hid (wtk ct l p=(GR,p,5)):=Dm (ZS du.out ex.out (fun h0=>by
       rw[jp.out] at h0;have h1:=jo.out.1 h0 j bb;rw[h1] at T;injection T with T;exact hc (by rw[<-T];rfl)))
      have b6:=r.res;have G:=r.low;clear T cd hc
      go_wp2_with (first|(with_reducible refine Pw rfl 39 _ rfl (some 158) rfl #[.int .i64 0,.int .i64 0,.int .i64 0,.bool false,.int .i64 0,.slice none 0 0,.slice none 0 0,.int .i64 0] tN ?_;rw[an.out])|(with_reducible refine AK rfl 39 _ _ rfl A di Y ?x1 ?x2 39 b6 O aw ax ?_;(case x1=>kernel_rfl);(case x2=>kernel_rfl);intro wz ai al))
      exact Wf0
    ·have d0:(((q:Int)+j)%8 != 0)=false:=by rw[cd];simpa using bb
     obtain rfl:g=j:=sX;have kh:Hid (AB l q (gap q)=0):=Dm (by rw[jp.out];exact jo.out.2 H.out);clear H cd bb hj jo kg;have gz:(q:Int)+(g:Int)=((q+g:Nat):Int):=sX;rw[gz] at d0 ⊢;obtain⟨q2,az⟩:=Ah (q+g);rw[az] at d0 ⊢;rw[az] at df;have dq:q2%8=0:=by rw[<-az];exact gy.out
     have jq:=Dm az;have cz:=kk.out q2 sX dq;clear az gz dq gy
     go_wp2_with fail
     refine(cz _).mono ?_;rintro e u ⟨rfl,rfl⟩;obtain⟨n,hn⟩:=Ah (FQ l q2);rw[hn];have g0:=Dm hn;have dg:=r.sht;have c7:=AA (o:=7) dg rfl;have f7:=AL (o:=7) dg;have g2:=D3 wr ⟨X,7,none⟩ (.int .i64 (n:Int));have dh:(wr.setCell ⟨X,7,none⟩ (.int .i64 (n:Int))).heap[X]? =some (.cells (AU hd (.slice a hd.supp.length ca) rv (n:Int)).toArray 39 (0,0)):=B3 (o:=7) _ dg;clear cz hn dg hq ao k2
     go_upto_region 37 with fail
     generalize wr.setCell ⟨X,7,none⟩ (.int .i64 (n:Int))=w7 at *;clear c7 f7;have jr:=(g2.block A r.ord.2.1 fun e=>by injection e with e;exact r.ord.2.2.2.2.1 e).trans r.res;obtain⟨aj,a9⟩:=Ah (AU hd (.slice a hd.supp.length ca) rv (n:Int));rw[a9] at dh;have z7:aj[7]? =some (.int .i64 (n:Int)):=by rw[<-a9];rfl
     have ce:(prog.info? 39).map (·.size)=some aj.toArray.size:=by rw[show aj.toArray.size=8 by rw[<-a9];rfl];kernel_rfl
     have g3:Y.size=aj.toArray.size:=by rw[dt,<-a9];rfl
     have g4:aj.toArray.all (·.oneCell')=true:=by
      obtain⟨qv,cv,hv,-⟩:=r.row.rows;rw[<-a9,hv];exact OI ..
     have g5:=(Vo (l:=l) (p:=q2) (by rw[ae.out];exact df)).2.1;rw[AZ,ae.out,g0.out] at g5;have k1:IntKind.i64.wrap (8*(n:Int))=((8*n:Nat):Int):=xR;have k4:IntKind.i64.wrap ((q2:Int)+((8*n:Nat):Int))=((q2+8*n:Nat):Int):=xR;have bi:Hid (wtk ct l p=(⟨hd,rs,(n:Int)⟩,q2+8*n,0)):=Dm (by
      have h1:=XT (ct:=ct) du.out ex.out kh.out;rw[jp.out,jq.out,g0.out] at h1;exact h1)
     have js:=Dm a9;have g6:=r.ord.2.2.2.2.1;have g7:X<w7.heap.size:=(Am.1 dh).1;generalize jt:8*n=n8 at *;clear a9 g5 kh ex jt;refine Pp (S:=fun x=>x.heap[X]? =some (.cells aj.toArray 39 (0,0))) tN dh (fun d=>?_);refine BY 0 (some 166) (v:=.agg aj.toArray) rfl rfl tN tN tN Wbr d (Or.inl ⟨tN,fun x hx=>FW (ty:=39) (x:=.tmp 7) (ad:=⟨X,0,none⟩) tN tN (Aq x (X) _ _ aj.toArray (0,0) _ (hx) Pk rfl ce)⟩) ?_
     try simp only[A1]
     refine AC 1 (some 167) d ?_
     try simp only[A1]
     refine AC 2 (some 168) d ?_
     try simp only[A1]
     refine B2 3 (some 169) (v:=.int .i64 (n:Int)) rfl rfl d tN (fun x hx=>by have c0:=AA hx z7;go_simp) ?_
     try simp only[A1]
     refine AC 4 (some 170) d ?_
     try simp only[A1]
     refine AC 5 (some 171) d ?_
     try simp only[A1]
     refine Po (rs:=[6]) tN sV ?_;refine Pm rfl (fun K I=>?_) Pn;refine(Bb tN).mpr ?_;have g8:w7.drew.heap[A]? =some (.cells Y 39 (0,0)):=jr;refine Pq 39 _ _ rfl A aj.toArray tN tN 39 Y g8 ce g3 g4 ?_;obtain⟨w8,a3⟩:=Ah (w7.drew.setRow A aj.toArray);have ju:w8.heap[A]? =some (.cells aj.toArray 39 (0,0)):=by rw[<-a3];exact Es _ _ _ _ _ _ g8
     have ac:w7.drew.grownBy w8 (some A):=by rw[<-a3];exact⟨rfl,rfl,rfl,by simp,fun k _ hk=>En _ _ _ _ (by intro e;exact hk (by rw[e]))⟩
     rw[a3];have jw:=(ac.block X (show X<w7.heap.size from g7) fun e=>by injection e with e;exact g6 e.symm).trans dh;refine I.out _ _ jw (fun F=>?_);clear I K d a3;have d:=F;clear F
     try simp only[Act.put,Ao]
     refine AC 7 (some 5) d ?_
     try simp only[Act.put]
     refine AC 8 (some 6) d ?_
     try simp only[Act.put]
     refine Pr tN ?_ _
     go_wp2
     refine Hb (B0 rfl _ _ A 39 _ (0,0) _ rfl ju Pk rfl ce) rfl ?_;have jx:wr.heap[A]? =some (.cells K4.toArray 39 (0,0)):=by rw[ia.out];exact r.res
     obtain⟨g9,jy⟩:=r.row.more jx;have ha:Yah [some X,some A] wr w8:=by
      have g1:Yah [some X,some A] wr w7:=Yah.one g2 fun k _ e=>Wba;refine g1.trans (M:=[some A]) ⟨ac.os,ac.tape,ac.output,ac.size,fun k hk hn=>ac.block k hk fun e=>hn Wa2⟩ fun j _ hm=>by rw[Df.1 hm];exact Ey _ (Df.2 rfl)
     refine⟨aj,?_,?_,?_⟩
     ·rw[bi.out]
      first|rfl|kernel_rfl
     ·rw[bi.out];refine fun x M hM hx=>?_;have dr:Yah (some X::some A::M) wr x:=(ha.mono fun j _ hm=>by
       rcases Ee.1 hm with e|e
       ·rw[e];exact Ez ..
       ·rw[Df.1 e];exact Ey _ (Ez ..)).trans hx fun j _ hm=>Ey _ (Ey _ hm)
      have ez:E3 (some A::L) x rv rs:=E3.keptL g9 dr (fun k hk=>by
       rcases Ee.1 hk with e|hk
       ·rw[e];exact Ey _ r.inX
       ·rcases Ee.1 hk with e|hk
        ·rw[e];exact Ez ..
        ·exact Ey _ (r.lows k (hM k hk))) fun k hk hm=>by
       rcases Ee.1 hm with e|hm
       ·injection e with e;exact(r.inR k hk).2 e
       ·rcases Ee.1 hm with e|hm
        ·injection e with e;exact jy k hk e
        ·have:=r.own.2.1 k hk;have:=hM k hm;omega
      have e0:BO x a hd.supp:=by
       rcases r.sup.2 with h2|⟨b,o,e,T⟩
       ·rw[h2];exact BO.nil _ _
       ·refine r.sup.1.keptL (fun y hy hm=>?_) dr;rw[e] at hy;injection hy with hy;have cj:=e7.out _ e;subst hy;rcases Ee.1 hm with e1|hm
        ·injection e1 with e1;exact T (by rw[show b=X from e1];exact r.inX)
        ·rcases Ee.1 hm with e1|hm
         ·injection e1 with e1;have:A<b:=cj;have:b=A:=e1;omega
         ·exact T (r.lows b (hM b hm))
      obtain⟨qv,cv,hv,ap⟩:=ez.rows;have k5:=(LL.1 (Si du.out).2.1).2.2.1;refine⟨a,qv,ca,cv,by rw[<-js.out,hv],?_,?_,e0,ap⟩
      ·show hd.supp.length<=maxLen;unfold maxLen;omega
      ·show rs.length<=maxLen;unfold maxLen;omega
     ·exact ha.under (N:=w.heap.size) (by have:=r.low.size;omega) (fun k hk=>by
       rcases Ee.1 hk with e|e
       ·injection e with e;rw[e];exact r.own.1
       ·have e:=Df.1 e;injection e with e;rw[e];exact r.ord.1) |> r.low.trans
end Go.Proofs.YtjjmalchelniiaaGreatDoor