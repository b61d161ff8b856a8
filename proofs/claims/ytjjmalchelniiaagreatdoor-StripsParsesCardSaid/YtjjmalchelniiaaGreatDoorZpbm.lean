/- No condition. -/
import Derived.Test.YtjjmalchelniiaaGreatDoorZpa
import Derived.Test.YtjjmalchelniiaaGreatDoorZpq
import Derived.Test.YtjjmalchelniiaaGreatDoorZpt
import Derived.Test.YtjjmalchelniiaaGreatDoorZpw
import Derived.Test.YtjjmalchelniiaaGreatDoorZpz
import Derived.Test.YtjjmalchelniiaaGreatDoorZpbi
import Derived.Test.YtjjmalchelniiaaGreatDoorZpbj
import Derived.Test.YtjjmalchelniiaaGreatDoorZpbl
open Go.Proofs.Tryz
open Go renaming World->A5,Value->A0
set_option maxHeartbeats 4000000
namespace Go.Proofs.YtjjmalchelniiaaGreatDoor
open Go.RowKit Go.Lib
theorem We8{p:Prop}(h:p:=by
 exact⟨0,q4,sX,b8,rfl,rfl,rfl,nilS,Dm rfl,Dm ⟨bd.out,fun j h=>absurd h (Fi j),fun _ _=>rfl⟩⟩):p:=h
theorem We7{p:Prop}(h:p:=by
 have d3:=Dm P;clear P d G T W e2
 go_wp2_with fail
 refine(cw _).mono ?_;rintro e w9 ⟨rfl,rfl⟩
 go_wp2_with fail
 refine(b6 _).mono ?_;rintro e w9 ⟨rfl,rfl⟩
 go_wp2
 go_roundw
 case rel=>exact⟨2,t2,sX,bx,rfl,tP,_,_,Dm (S6 ai.out az.out),d3⟩
 case measure=>simp[intOf]):p:=h
theorem We6{p:Prop}(h:p:=by
 have d3:=Dm P;clear P d G T W e2
 go_wp2_with fail
 refine(cw _).mono ?_;rintro e w9 ⟨rfl,rfl⟩
 go_wp2_with fail
 refine(b6 _).mono ?_;rintro e w9 ⟨rfl,rfl⟩
 go_wp2
 go_roundw
 case rel=>exact⟨1,t2,sX,bx,rfl,tP,_,_,Dm (Vp ai.out az.out),d3⟩
 case measure=>simp[intOf]):p:=h
theorem We5{p:Prop}(h:p:=by
 rw[<-hB]
 match i,ak with
 |0,_=>decide
 |1,_=>decide
 |2,_=>decide
 |3,_=>decide
 |4,_=>decide
 |5,_=>decide):p:=h
theorem We4{p:Prop}(h:p:=by
 have g3:(f3 != 0)=true:=by simpa using cr
 have F:=Dm (II 0 g.out sX (KW (x:=x) (y:=y) g.out (Lf g.out ap.out aq.out) (MQ cr)) cr);clear cr
 go_wp2_with fail
 refine cs.mono ?_;rintro e w4 ⟨rfl,ct⟩;have a5:=d.move ct;clear cs ct d d2;have ad:=a5.res;have ar:=a5.lt;have M:=a5.below;have ae:=Dm M;clear M
 go_wp2_with (with_reducible refine AK rfl 77 _ _ rfl (A+1) Y Y rfl rfl 77 ad R rfl bh ?_;intro w5 O J)
 refine Hb (B0 rfl _ _ (A+1) 77 _ (0,0) _ rfl O Nc rfl R) rfl ?_;exact bj.out f3 _ _ F.out ae.out ((CO J sX).mono sX)):p:=h
theorem We3{p:Prop}(h:p:=by
 clear an
 go_wp2_with fail
 refine T.mono ?_;rintro e w3 ⟨rfl,G⟩;have d:=W.out.move G;clear T G W e2 ai;have ad:=d.res;have ar:=d.lt;have M:=d.below;have ae:=Dm M;clear M
 go_wp2_with (with_reducible refine AK rfl 77 _ _ rfl (A+1) Y Y rfl rfl 77 ad R rfl bh ?_;intro w5 O J)
 refine Hb (B0 rfl _ _ (A+1) 77 _ (0,0) _ rfl O Nc rfl R) rfl ?_;exact bj.out f4 _ _ F.out ae.out ((CO J sX).mono sX)):p:=h
theorem We2{p:Prop}(h:p:=by
 have g0:(f2 != 0)=true:=by simpa using ab
 have F:=Dm (II 0 g.out sX (KW (x:=x) (y:=y) g.out (Lf g.out ap.out (OS ab)) (MQ ab)) ab);clear ab
 go_wp2_with (with_reducible refine BL rfl 77 _ _ rfl Z Y 77 rfl rfl ao a6 aa ?_;rw[bs.out,dr.out])
 refine(pi _).mono ?_;rintro e w9 ⟨rfl,rfl⟩
 go_wp2_with fail
 refine T.mono ?_;rintro e w3 ⟨rfl,G⟩;have d:=N.out.move G;clear T G N bi a7 c1 c2 ao a6 aa cv;have ad:=d.res;have ar:=d.lt;have M:=d.below;have ae:=Dm M;clear M
 go_wp2_with (with_reducible refine AK rfl 77 _ _ rfl (A+1) Y Y rfl rfl 77 ad R rfl bh ?_;intro w5 O J)
 refine Hb (B0 rfl _ _ (A+1) 77 _ (0,0) _ rfl O Nc rfl R) rfl ?_;exact bj.out f2 _ _ F.out ae.out ((CO J sX).mono sX)):p:=h
theorem We1{p:Prop}(h:p:=by
 obtain rfl:i=6:=sX;have t0:decide ((6:Int)<6)=false:=sV;have br:=l.out.1.cel;rw[QB] at br;have ec:=l.out.1.lt;have c8:=l.out.1.res;have bf:=HS D sl fun j hj=>(l.out.2.1 j hj).one;have X:=HT D sl;have bg:Y.size=(AD D sl).toArray.size:=zJ;obtain⟨V,hV⟩:=Ah ((AD D sl).toArray);rw[hV] at br bf X bg;have ed:=Dm hV;have H:EL inter S x y (p,0)=(D,t,0):=cc.out.trans (Fw rfl a0.out);have c9:=Dm (MN H);have da:=Dm (show w.heap.size<=C+1 by have:=dq.out;omega);clear hV H
 go_wp2_with (first|(with_reducible refine Nb rfl 77 _ rfl C rfl 77 V (0,0) _ br Nc rfl X ?_)|(with_reducible refine AK rfl 77 _ _ rfl (A+1) V Y rfl rfl 77 c8 X bg bf ?_;intro w5 O J))
 have db:=CO J sX;refine Hb (B0 rfl _ _ (A+1) 77 _ (0,0) _ rfl O Nc rfl X) rfl ?_;exact⟨D,t,0,sl,c9.out,by rw[ed.out];rfl,fun j hj=>((l.out.2.1 j hj).moved (Ybe.grown J (.inl rfl):Ybe (A+1) (A+1) _ _) sX sX).from da.out,dq.out▸l.out.1.below.trans (db.mono sX)⟩):p:=h
theorem We0{p:Prop}(h:p:=by
 try simp only[A1]
 refine AC 5 (some 131) I ?_
 try simp only[A1]
 refine AC 6 (some 132) I ?_
 try simp only[A1]
 refine B2 7 (some 133) (v:=.int .i64 ((r:Int) / (B:Int))) rfl rfl I tN (fun x _=>by go_simp;omega) ?_
 try simp only[A1]
 refine B2 8 (some 134) (v:=.int .i64 ((r:Int) / (B:Int)%2)) rfl rfl I tN (fun x _=>zH) ?_
 try simp only[A1]
 refine B2 9 (some 135) (v:=.bool bo) rfl rfl I tN (fun x _=>zH) ?_
 try simp only[A1]
 refine O8 (rs:=[4]) tN sV ?_;refine O6 rfl (fun K hK=>?_) O7
 go_simp
 go_wp2_with fail
 refine(pi _).mono ?_;rintro e w8 ⟨rfl,rfl⟩;refine hK.out _ _ (bp.out _ af) (fun al=>?_);clear hK K I;have I:=al;clear al
 try simp only[A1]
 refine O8 (rs:=[10]) tN sV ?_;refine O6 rfl (fun K hK=>?_) O7
 go_simp
 go_wp2_with fail
 refine cb.mono ?_;rintro e w9 ⟨d1,L1,f1,t1,m,qa,cap,cj,rfl,ck,E,am,a2⟩;simp only[J1] at cj;obtain⟨rfl,rfl,rfl,rfl⟩:=cj;have d8:=Dm ck;have d:=af.move a2;clear ck cb;refine hK.out _ _ (bp.out _ d) (fun al=>?_);clear hK K I;have I:=al;clear al
 try simp only[A1]
 refine AC 11 (some 125) I ?_
 try simp only[A1]
 refine AC 12 (some 137) I ?_
 try simp only[A1]
 refine AC 13 (some 138) I ?_
 try simp only[A1]
 refine AC 14 (some 139) I ?_
 try simp only[A1]
 refine AC 15 (some 140) I ?_
 try simp only[A1]
 refine AC 16 (some 25) I ?_
 try simp only[A1]
 refine AC 17 (some 26) I ?_
 try simp only[A1]
 refine AC 18 (some 27) I ?_
 try simp only[A1]
 refine AC 19 (some 28) I ?_
 try simp only[A1]
 refine Ob tN ?_ _;clear I;have a3:=Dm (And.intro d (And.intro E am));have d9:=a2.size;have c7:=Dm a2;clear d E am a2 qw qm qe;by_cases a4:f5=0
 ·subst a4;have Q:=a3.out.1;have E:=a3.out.2.1;have am:=a3.out.2.2;have dn:=Q.lt;have ea:=N.out.1.lt;have cl:Ybe C C wr.drew w9:=Ybe.below c7.out;have e6:=AA (o:=6+i) Q.cel (PM _ _ i ak);have f6:=AL (o:=6+i) Q.cel;have P:=Q.set (6+i) (.int .i64 dv) (Rb _ _ dv i ak);rw[<-cf.out,QT] at P;rw[cf.out] at P;have e7:=AA (o:=12+i) P.cel (OF _ _ i ak);have f7:=AL (o:=12+i) P.cel;have cm:=P.set (12+i) (.slice qa m cap) (Rk _ _ _ i ak);have bq:Ybe C C w9 ((w9.setCell ⟨C,6+i,none⟩ (.int .i64 dv)).setCell ⟨C,12+i,none⟩ (.slice qa m cap)):=(Ybe.set (a:=C) (b:=C) (p:=⟨C,6+i,none⟩) _ (.inl rfl)).trans (Ybe.set (a:=C) (b:=C) (p:=⟨C,12+i,none⟩) _ (.inl rfl));have cn:∀j,j<i+1->C3 ((w9.setCell ⟨C,6+i,none⟩ (.int .i64 dv)).setCell ⟨C,12+i,none⟩ (.slice qa m cap)) (C+1) (HC sl i (.slice qa m cap) j) (D.ev j):=by
   intro j hj;unfold HC;by_cases e:j=i
   ·rw[Bb e,e,c5.out];exact(show C3 w9 (C+1) _ _ from⟨qa,cap,by rw[d8.out],E,am.mono (show C+1<=wr.heap.size by omega)⟩).moved bq sX sX
   ·rw[Ba e];exact(((N.out.2.1 j sX).below ((Dn wr.heap.size wr).drew)).moved cl sX sX).moved bq sX sX
  have co:∀j,i+1<=j->HC sl i (.slice qa m cap) j=.slice none 0 0:=fun j hj=>(Ba sX).trans (N.out.2.2 j sX);have eb:=Dm (And.intro cm (And.intro cn co));rw[N.out.2.2 i (B9 i)] at e7;have qb:((B:Int)).tdiv 2=((B / 2:Nat):Int):=zE;clear Q P cm bq cl cn co E am
  go_wp2
  go_roundw
  case rel=>exact⟨i+1,t2,sX,sX,rfl,zG,tP,_,cg,eb⟩
  case measure=>simp[intOf];omega
 ·have g5:(f5 != 0)=true:=by simpa using a4
  have F:=Dm (cz.out (i+1) t2 f5 sX cg.out a4);have Q:=a3.out.1;clear a4;have ad:=Q.res;have ar:=Q.lt;have M:=Q.below;have ae:=Dm M;clear M
  go_wp2_with (with_reducible refine AK rfl 77 _ _ rfl (A+1) Y Y rfl rfl 77 ad R rfl bh ?_;intro w5 O J)
  refine Hb (B0 rfl _ _ (A+1) 77 _ (0,0) _ rfl O Nc rfl R) rfl ?_;exact bj.out f5 _ _ F.out ae.out ((CO J sX).mono sX)):p:=h
theorem yZ{p:Prop}(h:p:=by show some (Value.int .i64 D.kind)=_;rw[ce.out]):p:=h
theorem zA{p:Prop}(h:p:=by have c0:=(show _ from hx);go_simp):p:=h
theorem zB{p:Prop}(h:p:=by rw[<-O9];exact OG (Ef (Dv _ _) (by omega))):p:=h
theorem zC{p:Prop}(h:p:=by rw[<-q3,Jc,Bj,Bj,<-O9];omega):p:=h
theorem zD{p:Prop}(h:p:=by rw[<-O9];exact N6 (Oc _)):p:=h
theorem zE{p:Prop}(h:p:=by rw[N5 (by omega)];simp):p:=h
theorem zF{p:Prop}(h:p:=by rw[bl,bc.out];exact h):p:=h
theorem zG{p:Prop}(h:p:=by rw[<-c6.out];go_num):p:=h
theorem zH{p:Prop}(h:p:=by go_simp):p:=h
theorem zI{p:Prop}(h:p:=by have:=O.out;omega):p:=h
theorem zJ{p:Prop}(h:p:=by rw[<-ef.out];rfl):p:=h
abbrev O6:=@AllReadyH.cons
abbrev O7:=@AllReadyH.nil
abbrev O8:=@wpAnyH_ready
abbrev O9:=@Int.natCast_ediv
abbrev Oa:=@wp_region_held_drew
abbrev Ob:=@wpAnyH_done
abbrev Oc:=@Int.natCast_nonneg
abbrev Od:=@wp_store_row
theorem Ybe.lone {a b:Nat}{w x:A5}(h:Ybe a b w x)(c:w.heap.size<=b):w.grownBy x (some a):=
 ⟨h.os,h.tape,h.output,h.size,fun k hk hn=>h.block k hk (fun e=>hn (by rw[e])) sX⟩
def Xz (inter:Bool)(s:ByteArray)(rb:Nat)(x y:Int)(p:Nat)(w:A5)(e:Ending)(a:A5):Prop:=
 ∃(c:Cel) (q:Nat) (f:Int) (sl:Nat->A0),ctk inter (A2 s.data.toList) x y p=(c,q,f)/\e=.returned (.tuple #[.agg (AD c sl).toArray,.int .i64 f])/\(∀i,i<6->C3 a w.heap.size (sl i) (c.ev i))/\AE a rb s q/\w.grownBy a (some rb)
set_option maxRecDepth 100000 in
theorem Qan {N:Nat}{w:A5}{rb:Nat}{s:ByteArray}{p:Nat}(inter:Bool)(x y:Int)(ht:Ybt N w)(hN:N<=rb)(hr:AE w rb s p):
  Calls prog 178 #[.pointer (some ⟨rb,0,none⟩),.bool inter,.agg #[.int .i64 x,.int .i64 y]] w (Xz inter s rb x y p w):=by
 obtain⟨Y,V⟩:∃Y:Array A0,(AD Bx nilS).toArray=Y:=⟨_,rfl⟩;have a7:∀w,(zeroValue 77).run prog w=.ok (.agg Y) w:=by rw[<-V];exact T0
 have W:(prog.info? 77).map (·.size)=some Y.size:=V▸HT _ _;have an:Y.all (·.oneCell')=true:=V▸HS _ _ fun _ _=>rfl;obtain⟨A,wA,wB,X,hA,aa,ab,ac,ad,a8,a9,H,ae,I,r⟩:=eE w (.cells #[.int .i64 x,.int .i64 y] 73 (0,0)) (.cells Y 77 (0,0)) (.cells #[.pointer (some ⟨rb,0,none⟩),.int .i64 0] 212 (0,0));have ao:rb<A:=hA▸hr.lt;have af:AE X rb s p:=hr.under r ao;have ba:=hr.2.1;have a4:DC X (A+2) rb s (p,0):=⟨I,af,sX⟩;have p0:X.cell? ⟨A,0,none⟩=some (.int .i64 x):=AA (cs:=[.int .i64 x,.int .i64 y]) H rfl;have p1:X.cell? ⟨A,1,none⟩=some (.int .i64 y):=AA (cs:=[.int .i64 x,.int .i64 y]) H rfl;have r0:X.cell? ⟨A+2,0,none⟩=some (.pointer (some ⟨rb,0,none⟩)):=AA (cs:=[.pointer (some ⟨rb,0,none⟩),.int .i64 0]) I rfl;have cc:=Qen (N:=N) inter x y (ht.below (r.mono sX)) hN a4;have a5:=Dm V;have O:=Dm hA;have ap:=Dm aa;have aq:=Dm ab;have ar:=Dm ac;have au:=Dm r;have bb:=Dm ad;have av:=Dm ae;clear V hA aa ab ac r ad ae H I a4 ht hr hN
 go_enter func178,ntmps178
 go_wp2_with fail
 rw[ap.out,O.out,aq.out,ar.out];refine(EF _ _ _ _ af).mono ?_;rintro e w0 ⟨rfl,rfl⟩
 go_wp2_with fail
 refine cc.mono ?_;rintro e P ⟨c,aw,sl,D,rfl,J,ag,t⟩;obtain⟨Z,Q⟩:=Ah ((AD c sl).toArray);rw[Q];obtain⟨C,R⟩:=Ah P.heap.size;obtain⟨T,h⟩:=Ah (P.alloc (.cells Z 77 (0,0)));have j:Below C P T:=by rw[<-h,<-R];exact(Dn _ P).alloc (B9 _) _
 have ax:=t.size;have u:=ag.under j sX;have ay:T.heap[C]? =some (.cells Z 77 (0,0)):=by rw[<-h,<-R];exact heap_alloc_new P _
 have ah:T.heap[A+1]? =some (.cells Y 77 (0,0)):=(j.block (A+1) sX).trans ((t.block (A+1) sX sX sX).trans av.out);have bc:C<T.heap.size:=by rw[<-h,<-R];simp
 have l:(prog.info? 77).map (·.size)=some Z.size:=Q▸HT _ _;have L:Y.size=Z.size:=by rw[<-Q,<-a5.out];rfl
 have m:Z.all (·.oneCell')=true:=Q▸HS _ _ fun i hi=>(J i hi).one;have d:w.grownBy T (some rb):=by
  have h1:Ybe rb (A+2) w P:=((Ybe.refl rb (A+2) w).onto au.out (Ge O.out)).trans t;exact(h1.onto j (by have:=h1.size;omega)).lone zI
 have E:∀i,i<6->C3 T (A+2) (sl i) (c.ev i):=fun i hi=>((J i hi).from sX).below (R▸j);have bd:=Dm Q;have a6:=Dm R;have ai:=Dm h;have F:=Dm D;have az:=Dm E;have aj:=AA (o:=1) u.1 rfl;have a0:=AA (o:=0) u.1 rfl;obtain⟨q,f⟩:=aw;simp only at aj a0;have bf:A+3<=C:=sX;clear Q R h D J E t ag j cc ax;by_cases hf:f=0
 ·subst hf
  go_wp2_with (first|(with_reducible refine BL rfl 77 _ _ rfl Z Y 77 rfl rfl l L m ?_;rw[ai.out,a6.out])|(with_reducible refine Nb rfl 77 _ rfl C rfl 77 Z (0,0) _ ay Nc rfl l ?_)|(with_reducible refine AK rfl 77 _ _ rfl (A+1) Z Y rfl rfl 77 ah l L m ?_;intro w5 M n))
  refine Hb (C0 rfl _ _ (A+1) 77 _ (0,0) _ rfl M Nc rfl l) rfl ?_;have b:=CO n sX;exact⟨c,q,0,sl,MN F.out,by rw[bd.out];rfl,fun i hi=>((az.out i hi).moved (Ybe.grown n (.inl rfl):Ybe (A+1) (A+1) _ _) sX sX).from zI,u.2.1.under b sX,⟨b.os.trans d.os,b.tape.trans d.tape,b.output.trans d.output,Ef d.size b.size,fun k hk hn=>(b.block k zI).trans (d.block k hk hn)⟩⟩
 ·have g0:(f != 0)=true:=by simpa using hf
  have bg:=Dm hf;clear hf
  go_wp2_with (with_reducible refine BL rfl 77 _ _ rfl Z Y 77 rfl rfl l L m ?_;rw[ai.out,a6.out])
  refine(GQ _ _ _ _ (p:Int) u.2.1 sX sX).mono ?_;rintro e U ⟨rfl,ak,g⟩;rw[Dp] at ak;have al:=(g.block (A+1) sX sU).trans ah;have am:=(G4 (a:=⟨A+2,1,none⟩) (g.block (A+2) sX sU)).trans aj;have a1:=g.size
  go_wp2
  refine Oa (S:=(fun z=>z.cell? ⟨A+2,1,none⟩=some (.int .i64 f))) tN am (fun hH=>?_);refine B2 0 (some 29) (v:=.agg Y) rfl rfl hH tN (fun x _=>by go_simp;try with_reducible rfl) ?_
  try simp only[A1]
  refine AC 1 (some 30) hH ?_
  try simp only[A1]
  refine B2 2 (some 31) (v:=.int .i64 f) rfl rfl hH tN (fun x hx=>zA) ?_
  try simp only[A1]
  refine O8 (rs:=[3]) tN sV ?_;refine O6 rfl (fun K hK=>?_) O7;refine(Bb tN).mpr ?_;have G:U.drew.heap[A+1]? =some (.cells Y 77 (0,0)):=al;refine Od 77 _ _ rfl (A+1) Y rfl rfl 77 Y G W rfl an ?_;obtain⟨w5,B⟩:=Ah (U.drew.setRow (A+1) Y);have M:w5.heap[A+1]? =some (.cells Y 77 (0,0)):=by rw[<-B];exact Es _ _ _ _ _ _ G
  have n:U.drew.grownBy w5 (some (A+1)):=by rw[<-B];exact⟨rfl,rfl,rfl,by simp,fun k _ hk=>En _ _ _ _ (by intro e;exact hk (by rw[e]))⟩
  have a2:w5.cell? ⟨A+2,1,none⟩=some (.int .i64 f):=(G4 (a:=⟨A+2,1,none⟩) (n.block (A+2) (show A+2<U.heap.size by omega) sV)).trans am;rw[B];refine hK.out _ _ a2 (fun a3=>?_);clear hK K hH B;refine AC 4 (some 7) a3 ?_
  try simp only[Act.put]
  refine Ob tN ?_ _
  go_wp2
  refine Hb (C0 rfl _ _ (A+1) 77 _ (0,0) _ rfl M Nc rfl W) rfl ?_;have b:=((Dn (A+1) U).drew).trans (CO n (show A+1<U.heap.size by omega));exact⟨Bx,p,f,nilS,U3 bg.out (by rw[F.out]),by rw[a5.out];rfl,fun i hi=>C3.nil _ _,ak.under b sX,⟨b.os.trans (g.os.trans d.os),b.tape.trans (g.tape.trans d.tape),b.output.trans (g.output.trans d.output),Ef d.size (Ef a1 b.size),fun k hk hn=>(b.block k zI).trans ((g.block k (Bc hk d.size) hn).trans (d.block k hk hn))⟩⟩
theorem U7 (inter:Bool)(S:List UInt8)(x y:Int)(p i:Nat):((ctk inter S x y p).1.ev i).length<=65:=by
 have c:∀a b st,(BB a b S st).2.1.length<=65:=by
  intro a b st;unfold BB
  split
  ·exact mA S st.1 a b
  ·exact Do _
 unfold ctk
 split
 ·simp only[EL]
  split
  ·exact Do _
  ·exact c _ _ _
 ·exact Do _
theorem II {inter:Bool}{S:List UInt8}{x y:Int}{p n:Nat}{k ch:Int}{a:Stt}{q:Nat}{f:Int}(i:Nat)(h:AR inter S 65 0 (p,0)=(n,false,k,ch,a))(hi:i<=6)
  (hs:stB (AG k) (JS inter S (p,0)) S (st4 inter S x y (p,0)) i=(q,f))(b:f≠0):ctk inter S x y p=(Bx,p,f):=by
 refine U3 b ?_;rw[qT h];have h1:=Sk (intra:=AG k) (c:=JS inter S (p,0)) (S:=S) (st:=st4 inter S x y (p,0)) (i:=i) (by rw[hs];exact b) (6-i);rw[show i+(6-i)=6 by omega,hs] at h1;rw[h1]
theorem R6 {inter:Bool}{S:List UInt8}{st:Stt}{n:Nat}{c:Bool}{k ch pt:Int}{a b:Stt}(h:AR inter S 65 0 st=(n,c,k,ch,a))(h2:AT (ptk (AG k)) S a=(pt,b)):st2 inter S st=b:=by
 unfold st2;rw[h,h2]
theorem Lf {inter:Bool}{S:List UInt8}{st:Stt}{n:Nat}{d:Bool}{k ch e:Int}{a b c:Stt}(h:AR inter S 65 0 st=(n,d,k,ch,a))(h2:st2 inter S st=b)(h3:FM S k b=(e,c)):st3 inter S st=c:=by
 unfold st3;rw[h,h2,h3]
theorem RE {inter:Bool}{S:List UInt8}{x y:Int}{st:Stt}{n:Nat}{d:Bool}{k ch mx my:Int}{a b c:Stt}(h:AR inter S 65 0 st=(n,d,k,ch,a))(h3:st3 inter S st=b)(h4:EO S k x y b=(mx,my,c)):st4 inter S x y st=c:=by
 unfold st4;rw[h,h3,h4]
theorem KW {inter:Bool}{S:List UInt8}{x y:Int}{st:Stt}{n:Nat}{d:Bool}{k ch:Int}{a b c:Stt}(h:AR inter S 65 0 st=(n,d,k,ch,a))(h3:st3 inter S st=b)(h4:(EO S k x y b).2.2=c):st4 inter S x y st=c:=by
 unfold st4;rw[h,h3,h4]
theorem R5 {inter:Bool}{S:List UInt8}{st:Stt}{n:Nat}{b:Bool}{k ch pt:Int}{a c:Stt}(h:AR inter S 65 0 st=(n,b,k,ch,a))(h2:AT (ptk (AG k)) S a=(pt,c)):JS inter S st=4*pt.toNat+ch.toNat:=by
 unfold JS;rw[h,h2]
structure Ymt (w wr:A5) (A R C:Nat) (x y:Int) (Y:Array A0) (c:Cel) (sl:Nat->A0):Prop where
 below:Below A w wr
 two:wr.heap[A]? =some (.cells #[.int .i64 x,.int .i64 y] 73 (0,0))
 res:wr.heap[R]? =some (.cells Y 77 (0,0))
 cel:wr.heap[C]? =some (.cells (AD c sl).toArray 77 (0,0))
 lt:A<R/\R<C/\C<wr.heap.size
section
variable {w wr z:A5}{A R C:Nat}{x y:Int}{Y:Array A0}{c c':Cel}{sl sl':Nat->A0}
theorem Ymt.move (h:Ymt w wr A R C x y Y c sl)(a:Below wr.heap.size wr z):Ymt w z A R C x y Y c sl:=
 ⟨h.below.trans (a.mono yR),(a.block A yR).trans h.two,(a.block R yR).trans h.res,(a.block C h.lt.2.2).trans h.cel,h.lt.1,h.lt.2.1,Bc h.lt.2.2 a.size⟩
theorem Ymt.set (h:Ymt w wr A R C x y Y c sl)(o:Nat)(v:A0)(hs:(AD c sl).set o v=AD c' sl'):Ymt w (wr.setCell ⟨C,o,none⟩ v) A R C x y Y c' sl':=by
 have a:Below C wr (wr.setCell ⟨C,o,none⟩ v):=⟨rfl,rfl,rfl,tY,fun k hk=>Ib _ _ _ _ sU⟩;refine⟨h.below.trans (a.mono yR),(a.block A yR).trans h.two,(a.block R h.lt.2.1).trans h.res,?_,h.lt.1,h.lt.2.1,Bc h.lt.2.2 a.size⟩;rw[<-hs];exact B3 (o:=o) v h.cel
theorem Ymt.same (h:Ymt w wr A R C x y Y c sl)(a:AD c sl=AD c' sl'):Ymt w wr A R C x y Y c' sl':=
 ⟨h.below,h.two,h.res,a▸h.cel,h.lt⟩
end
def YP (inter:Bool)(S:List UInt8)(x y:Int)(p:Nat)(w:A5)(e:Ending)(a:A5):Prop:=
 ∃(c:Cel) (q:Nat) (f:Int) (sl:Nat->A0),ctk inter S x y p=(c,q,f)/\e=.returned (.tuple #[.agg (AD c sl).toArray,.int .i64 (q:Int),.int .i64 f])/\(∀i,i<6->C3 a w.heap.size (sl i) (c.ev i))/\Below w.heap.size w a
theorem Vp {S:List UInt8}{x y mx my b:Int}{st a st2:Stt}(h:GP S x y st 0=(mx,my,a))(h1:BG S x a=(b,st2)):GP S x y st 1=(b,0,st2):=by
 have e:st=a:=(Nd (Nd h).2).2;subst e;show ((BG S x st).1,(0:Int),(BG S x st).2)=_;rw[h1]
theorem S6 {S:List UInt8}{x y mx my b:Int}{st a st2:Stt}(h:GP S x y st 1=(mx,my,a))(h1:BG S y a=(b,st2)):GP S x y st 2=(mx,b,st2):=by
 have e1:(BG S x st).1=mx:=(Nd h).1;have e2:(BG S x st).2=a:=(Nd (Nd h).2).2;show ((BG S x st).1,(BG S y (BG S x st).2).1,(BG S y (BG S x st).2).2)=_;rw[e1,e2,h1]
theorem Z6 {S:List UInt8}{k x y mx my b:Int}{st a st2:Stt}(hk:AG k=false)(h:GP S x y st 1=(mx,my,a))(h1:BG S y a=(b,st2)):(EO S k x y st).2.2=st2:=by
 rw[Rw hk,S6 h h1]
theorem ZH {S:List UInt8}{k x y mx my b:Int}{st a:Stt}{t:Nat}{f:Int}(hk:AG k=false)(h:GP S x y st 0=(mx,my,a))(h1:BG S x a=(b,(t,f)))(c:f≠0):(EO S k x y st).2.2=(t,f):=by
 have h2:=Vp h h1;have h3:BG S y (t,f)=(AI (AI y+(AT dtk S (t,f)).1),(AT dtk S (t,f)).2):=rfl;rw[MC (show ((t,f):Stt).2≠0 from c)] at h3;rw[Rw hk,S6 h2 h3]
theorem RD (c i:Nat)(hi:i<=5):((c / (32 / 2^i)%2:Nat)==1)=AX c i:=by
 unfold AX;have h:32 / 2^i=2^(5-i):=by
  match i,hi with
  |0,_=>rfl
  |1,_=>rfl
  |2,_=>rfl
  |3,_=>rfl
  |4,_=>rfl
  |5,_=>rfl
 rw[h]
set_option maxRecDepth 100000 in
theorem Qg0 (inter:Bool)(s:ByteArray)(p:Nat)(x y:Int)(w:A5)(hs:s.size<=1048576)(hp:p<=s.size)(dh:AH s.data.toList=true):
  Calls prog 68 #[.string s,.int .i64 (p:Int),.bool inter,.agg #[.int .i64 x,.int .i64 y]] w (YP inter s.data.toList x y p w):=by
 obtain⟨Y,hY⟩:∃Y:Array A0,(AD Bx nilS).toArray=Y:=⟨_,rfl⟩;have e9:∀w,(zeroValue 77).run prog w=.ok (.agg Y) w:=by rw[<-hY];exact T0
 have R:(prog.info? 77).map (·.size)=some Y.size:=hY▸HT _ _;have bh:Y.all (·.oneCell')=true:=hY▸HS _ _ fun _ _=>rfl;have eu:s.data.toList.length=s.size:=rfl;obtain⟨A,wA,wB,hA,eg,eh,ew,ex,ei,ej,ek⟩:=JT w (.cells #[.int .i64 x,.int .i64 y] 73 (0,0)) (.cells Y 77 (0,0));have cb:=oC inter s p wB hs hp;have eq:=fun(b:Bool) (t:Nat) (z:A5) (ht:t<=s.size)=>mX b s t z hs ht;have er:=fun(t:Nat) (z:A5) (ht:t<=s.size)=>kW s t z sX ht dh;have es:=fun(t:Nat) (z:A5) (ht:t<=s.size)=>Y5c s t z hs ht;have et:=fun(t:Nat) (i c:Bool) (z:A5) (ht:t<=s.size)=>jY s t i c z hs ht dh;unfold St at eq;unfold TA at er;unfold RL at es;unfold OB at et;generalize s.data.toList=S at cb eq er es et eu dh ⊢;have e8:∀(f:Int) (wx wy:A5),ctk inter S x y p=(Bx,p,f)->Below A w wx->Below A wx wy->YP inter S x y p w (.returned (.tuple #[.agg Y,.int .i64 (p:Int),.int .i64 f])) wy:=
  fun f wx wy h h1 h2=>⟨Bx,p,f,nilS,h,by rw[hY],fun i _=>C3.nil _ _,hA▸h1.trans h2⟩
 have bj:=Dm e8;have ds:=Dm eq;have el:=Dm er;have dt:=Dm es;have du:=Dm et;have ef:=Dm hY;have dq:=Dm hA;have ey:=Dm eg;have ez:=Dm eh;clear e8 eq er es et hY hA eg eh dh
 go_enter func68,ntmps68
 go_wp2_with fail
 rw[ey.out,dq.out,ez.out];refine cb.mono ?_;rintro e w1 ⟨n,sk,k,ch,q1,f1,dx,dj,dy⟩;have g:=Dm dx;have e0:=dj.size;have di:Below A w w1:=ek.trans (dj.mono sX);have em:=(dj.block A sX).trans ei;have dz:=(dj.block (A+1) sX).trans ej;obtain⟨C,hC⟩:=Ah w1.heap.size;have dr:=Dm hC;have fa:A+2<=C:=sX;clear cb ek ei ej dj dx;rcases dy with ⟨rfl,rfl,fb⟩|⟨dw,rfl⟩
 case inr=>
  have g0:(f1 != 0)=true:=by simpa using dw
  have F:=Dm (U3 dw (dF (x:=x) (y:=y) g.out dw));obtain⟨w2,cu⟩:=Ah (w1.alloc (.cells Y 77 (0,0)));have cx:Below C w1 w2:=by rw[<-cu,<-hC];exact(Dn _ w1).alloc (B9 _) _
  have a7:=(cx.block (A+1) sX).trans dz;have fc:C<w2.heap.size:=by rw[<-cu,<-hC];simp
  have bs:=Dm cu;have en:=Dm (di.trans (cx.mono sX));rw[ef.out];clear dw cu cx di hC
  go_wp2_with (first|(with_reducible refine BL rfl 77 _ _ rfl Y Y 77 rfl rfl R rfl bh ?_;rw[bs.out,dr.out])|(with_reducible refine AK rfl 77 _ _ rfl (A+1) Y Y rfl rfl 77 a7 R rfl bh ?_;intro w5 O J))
  refine Hb (B0 rfl _ _ (A+1) 77 _ (0,0) _ rfl O Nc rfl R) rfl ?_;exact bj.out f1 _ _ F.out en.out ((CO J sX).mono sX)
 case inl=>
  obtain⟨Z,hZ⟩:∃Z,(AD {Bx with stuff:=n,skip:=sk,kind:=k} nilS).toArray=Z:=⟨_,rfl⟩;rw[hZ];obtain⟨w2,cu⟩:=Ah (w1.alloc (.cells Z 77 (0,0)));have eo:Ymt w w2 A (A+1) C x y Y {Bx with stuff:=n,skip:=sk,kind:=k} nilS:=by
   have cx:Below C w1 w2:=by rw[<-cu,<-hC];exact(Dn _ w1).alloc (B9 _) _
   exact⟨di.trans (cx.mono sX),(cx.block A sX).trans em,(cx.block (A+1) sX).trans dz,by rw[hZ,<-cu,<-hC];exact heap_alloc_new w1 _,sX,sX,by rw[<-cu,<-hC];simp⟩
  have ao:(prog.info? 77).map (·.size)=some Z.size:=hZ▸HT _ _;have a6:Y.size=Z.size:=by rw[<-hZ,<-ef.out];rfl
  have aa:Z.all (·.oneCell')=true:=hZ▸HS _ _ fun _ _=>rfl;have fd:=Dm hZ;have bs:=Dm cu;have N:=Dm eo;have bi:=eo.cel;rw[hZ] at bi;have a7:=eo.res;have cv:=eo.lt;have d0:=Wm _ _ _ _ _ _ _ _ _ _ g.out;clear hZ cu eo di em dz hC e0 ew ex;cases sk with
  |true=>
   have c1:w2.cell? ⟨C,1,none⟩=some (.bool true):=AA (o:=1) N.out.cel rfl;obtain rfl:0=k:=(d0.2.2.2.2.2.2 rfl).symm;clear d0
   go_wp2_with (first|(with_reducible refine BL rfl 77 _ _ rfl Z Y 77 rfl rfl ao a6 aa ?_;rw[bs.out,dr.out])|(with_reducible refine Nb rfl 77 _ rfl C rfl 77 Z (0,0) _ bi Nc rfl ao ?_)|(with_reducible refine AK rfl 77 _ _ rfl (A+1) Z Y rfl rfl 77 a7 ao a6 aa ?_;intro w5 O J))
   refine Hb (B0 rfl _ _ (A+1) 77 _ (0,0) _ rfl O Nc rfl ao) rfl ?_;exact⟨_,q1,0,nilS,MN (R9 g.out),by rw[<-fd.out];rfl,fun i hi=>C3.nil _ _,dq.out▸N.out.below.trans ((CO J sX).mono sX)⟩
  |false=>
   obtain⟨b0,b1,b2,b3,b4,b5,_⟩:=d0;obtain⟨a,rfl⟩:∃a:Nat,ch=(a:Int):=⟨ch.toNat,sX⟩;have c1:w2.cell? ⟨C,1,none⟩=some (.bool false):=AA (o:=1) N.out.cel rfl;have c2:w2.cell? ⟨C,2,none⟩=some (.int .i64 k):=AA (o:=2) N.out.cel rfl;obtain hk|hk|hk|hk:k=0\/k=1\/k=3\/k=4:=sX
   ·subst hk;have bt:=PN false (S.drop q1);have T:=ds.out false q1 w2 sX;have av:AT (ptk false) S (q1,0)=_:=ED;have aw:(S.drop q1).length=S.length-q1:=Bf;generalize ptk false (S.drop q1)=z at T bt av;obtain⟨pt,f2,n2⟩:=z;simp only at T bt av;obtain⟨b,rfl⟩:∃b:Nat,pt=(b:Int):=⟨pt.toNat,sX⟩;have ax:Hid (AT (ptk (AG 0)) S (q1,0)=((b:Int),q1+n2,f2)):=Dm av;have pi:=LX 0;rw[show AG 0=false from rfl] at pi;obtain⟨r,bu⟩:=Ah (4*b+a);have dk:4*(b:Int)+(a:Int)=(r:Int):=sX;have cy:=Dm bu;clear bu;obtain⟨q2,bv⟩:=Ah (q1+n2);have dl:q2<=s.size:=sX;rw[bv] at ax T;have a8:st2 inter S (p,0)=(q2,f2):=R6 g.out ax.out;have ap:=Dm a8;have dm:(b:Int)<=15:=sX;clear av aw bv a8;by_cases ab:f2=0
    ·subst ab
     go_wp2_with (with_reducible refine BL rfl 77 _ _ rfl Z Y 77 rfl rfl ao a6 aa ?_;rw[bs.out,dr.out])
     refine(pi _).mono ?_;rintro e w9 ⟨rfl,rfl⟩
     go_wp2_with fail
     refine T.mono ?_;rintro e w3 ⟨rfl,G⟩;have d:=N.out.move G;have d2:w3.cell? ⟨C,2,none⟩=some (.int .i64 0):=AA (o:=2) d.cel rfl;clear T G N bi a7 c1 c2 ao a6 aa cv;have aq:Hid (FM S 0 (q2,0)=(0,q2,0)):=Dm rfl;have a9:st3 inter S (p,0)=(q2,0):=Lf g.out ap.out aq.out;have ba:=Dm a9;clear a9
     go_wp2
     have bb:=Dm d;clear d
     go_loopw [13,19] (fun u v wr=>∃i t:Nat,i<=2/\t<=s.size/\u=.int .i64 (t:Int)/\v=.int .i64 (i:Int)/\∃mx my,Hid (GP S x y (q2,0) i=(mx,my,(t,0)))/\Hid (Ymt w wr A (A+1) C x y Y {Bx with stuff:=n,skip:=false,kind:=0,step:=0,mx:=mx,my:=my} nilS)) (fun _ v _=>2-(intOf v).toNat)
     case atStart=>exact⟨0,q2,sX,sX,rfl,rfl,0,0,Dm rfl,bb⟩
     case round=>
      clear bb;obtain⟨i,t,e1,ht,rfl,rfl,mx,my,ai,l⟩:=hrel;obtain rfl|rfl|rfl:i=0\/i=1\/i=2:=sX
      ·obtain rfl:mx=0:=(Nd ai.out).1.symm;obtain rfl:my=0:=(Nd (Nd ai.out).2).1.symm;have U:=l.out;have e2:wr.cell? ⟨C,2,none⟩=some (.int .i64 0):=AA (o:=2) U.cel rfl;have T:=dt.out t wr ht;have ay:=PB S (t,0);have bk:=OY (S.drop t);have aw:(S.drop t).length=S.length-t:=Bf;have aj:AT dtk S (t,0)=_:=ED;have ac:BG S x (t,0)=(AI (AI x+(AT dtk S (t,0)).1),(AT dtk S (t,0)).2):=rfl;rw[aj] at ay ac;generalize dtk (S.drop t)=z at T ay bk ac aj;obtain⟨dd,f4,n4⟩:=z;simp only at T ay bk ac aj;obtain⟨t2,bw⟩:=Ah (t+n4);have bx:t2<=s.size:=sX;rw[bw] at T ac aj;have wl:=PV x;have wh:=PU x;have sw:IntKind.i64.wrap (AI x+dd)=AI x+dd:=Kd _ sX;have az:=Dm ac;have W:=Dm U;clear ac aj aw bk ay bw l U;by_cases an:f4=0
       ·subst an;generalize bz:AI x=p1 at az sw wl wh;have cw:=NL x;rw[bz] at cw;have b6:=NL (p1+dd);generalize AI (p1+dd)=p2 at b6 az;clear bz
        go_wp2_with fail
        refine T.mono ?_;rintro e w3 ⟨rfl,G⟩;have d:=W.out.move G;have p0:w3.cell? ⟨A,0,none⟩=some (.int .i64 x):=AA (cs:=[.int .i64 x,.int .i64 y]) d.two rfl;have e4:=AA (o:=4) d.cel rfl;have f4:=AL (o:=4) d.cel;have P:=d.set 4 (.int .i64 p2) (c':={Bx with stuff:=n,skip:=false,kind:=0,step:=0,mx:=p2,my:=0}) (sl':=nilS) rfl;exact We6
       ·have g4:(f4 != 0)=true:=by simpa using an
        have F:=Dm (II 0 g.out sX (KW (x:=x) (y:=y) g.out ba.out (ZH (k:=0) rfl ai.out az.out an)) an);exact We3
      ·have e5:=(Nd (Nd ai.out).2).1;obtain rfl:my=0:=(Nd (Nd ai.out).2).1.symm;have U:=l.out;have e2:wr.cell? ⟨C,2,none⟩=some (.int .i64 0):=AA (o:=2) U.cel rfl;have T:=dt.out t wr ht;have ay:=PB S (t,0);have bk:=OY (S.drop t);have aw:(S.drop t).length=S.length-t:=Bf;have aj:AT dtk S (t,0)=_:=ED;have ac:BG S y (t,0)=(AI (AI y+(AT dtk S (t,0)).1),(AT dtk S (t,0)).2):=rfl;rw[aj] at ay ac;generalize dtk (S.drop t)=z at T ay bk ac aj;obtain⟨dd,f4,n4⟩:=z;simp only at T ay bk ac aj;obtain⟨t2,bw⟩:=Ah (t+n4);have bx:t2<=s.size:=sX;rw[bw] at T ac aj;have wl:=PV y;have wh:=PU y;have sw:IntKind.i64.wrap (AI y+dd)=AI y+dd:=Kd _ sX;have az:=Dm ac;have W:=Dm U;clear ac aj aw bk ay bw l U;by_cases an:f4=0
       ·subst an;generalize bz:AI y=p1 at az sw wl wh;have cw:=NL y;rw[bz] at cw;have b6:=NL (p1+dd);generalize AI (p1+dd)=p2 at b6 az;clear bz
        go_wp2_with fail
        refine T.mono ?_;rintro e w3 ⟨rfl,G⟩;have d:=W.out.move G;have p0:w3.cell? ⟨A,1,none⟩=some (.int .i64 y):=AA (cs:=[.int .i64 x,.int .i64 y]) d.two rfl;have e4:=AA (o:=5) d.cel rfl;have f4:=AL (o:=5) d.cel;have P:=d.set 5 (.int .i64 p2) (c':={Bx with stuff:=n,skip:=false,kind:=0,step:=0,mx:=mx,my:=p2}) (sl':=nilS) rfl;exact We7
       ·have g4:(f4 != 0)=true:=by simpa using an
        have F:=Dm (II 0 g.out sX (KW (x:=x) (y:=y) g.out ba.out (Z6 (k:=0) rfl ai.out az.out)) an);exact We3
      ·have U:=l.out;have b7:=(Rw (S:=S) (k:=0) (x:=x) (y:=y) (st:=(q2,0)) rfl).trans ai.out;have au:=Dm b7;have bc:Hid (st4 inter S x y (p,0)=(t,0)):=Dm (RE g.out ba.out b7);clear b7 l ai;rw[show (Value.int .i64 ((2:Nat):Int))=.int .i64 2 from rfl]
       go_wp2
       generalize wr=wo at *;generalize t=q4 at *;have b8:q4<=s.size:=sX;have H:=OL (inter:=inter) (x:=x) (y:=y) g.out ax.out aq.out au.out;have bl:=R5 g.out ax.out;rw[show ((b:Int)).toNat=b from rfl,show ((a:Int)).toNat=a from rfl,cy.out] at H bl;obtain⟨D,hD⟩:∃D:Cel,{stuff:=n,skip:=false,kind:=0,step:=0,mx:=mx,my:=my,dc:=fun i=>(BB (AG 0) (AX r i) S (stB (AG 0) r S (q4,0) i)).1,ev:=fun i=>(BB (AG 0) (AX r i) S (stB (AG 0) r S (q4,0) i)).2.1}=D:=⟨_,rfl⟩;rw[hD] at H;have b9:∀i,D.dc i=(BB false (AX r i) S (stB false r S (q4,0) i)).1:=fun i=>yQ;have ca:∀i,D.ev i=(BB false (AX r i) S (stB false r S (q4,0) i)).2.1:=fun i=>yQ;have af:Ymt w wo A (A+1) C x y Y (F0 D 0) nilS:=Ymt.same U yQ;have bm:∀(i:Nat) (q f:Nat×Int),True:=fun _ _ _=>trivial;have cz:=Dm (fun(i tq:Nat) (f:Int) (hi:i<=6) (h:stB false r S (q4,0) i=(tq,f)) (hf:f≠0)=>II (x:=x) (y:=y) i g.out hi zF hf);have cc:=Dm H;have ce:Hid (D.kind=0):=Dm (by rw[<-hD]);have c3:=Dm b9;have c4:=Dm ca;have bd:=Dm af;clear H hD b9 ca af U bl bm bc au
       go_loopw [13,23,24] (fun u v z wr=>∃i t:Nat,i<=6/\t<=s.size/\u=.int .i64 (t:Int)/\v=.int .i64 ((32 / 2^i:Nat):Int)/\z=.int .i64 (i:Int)/\∃sl,Hid (stB false r S (q4,0) i=(t,0))/\Hid (Ymt w wr A (A+1) C x y Y (F0 D i) sl/\(∀j,j<i->C3 wr (C+1) (sl j) (D.ev j))/\∀j,i<=j->sl j=.slice none 0 0)) (fun _ _ z _=>6-(intOf z).toNat)
       case atStart=>exact We8
       case round=>
        clear bd;obtain⟨i,t,d4,ht,rfl,rfl,rfl,sl,a0,l⟩:=hrel;by_cases ak:i<6
        ·have t0:decide ((i:Int)<6)=true:=sU;have c2:wr.cell? ⟨C,2,none⟩=some (.int .i64 0):=AA (o:=2) l.out.1.cel yZ;have cb:=du.out t false (AX r i) wr.drew ht;have a1:BB false (AX r i) S (t,0)=_:=NZ;have bn:=(Sc S t false (AX r i) sX).1;have ag:stB false r S (q4,0) (i+1)=(BB false (AX r i) S (stB false r S (q4,0) i)).2.2:=rfl;have ah:=c3.out i;have E:=c4.out i;rw[a0.out,a1] at ag ah E;have q3:=RD r i sX;generalize AX r i=bo at cb a1 bn ag ah E q3;generalize btk S t false bo=z at cb a1 bn ag ah E;obtain⟨dv,L,t2,f5⟩:=z;simp only at bn ag ah E;have cf:=Dm ah;have c5:=Dm E;have cg:=Dm ag;obtain⟨B,hB⟩:=Ah (32 / 2^i);have ci:1<=B/\B<=32/\B / 2=32 / 2^(i+1):=by
          exact We5
         rw[hB] at q3 ⊢;have c6:=Dm ci.2.2;obtain⟨d5,d6,-⟩:=ci;have pi:=LX 0;rw[show AG 0=false from rfl] at pi;clear ah E ag a1 hB;have qw:IntKind.i64.wrap ((r:Int) / (B:Int))=(r:Int) / (B:Int):=zB;have qm:((r:Int) / (B:Int)).tmod 2=(r:Int) / (B:Int)%2:=zD;have qe:(((r:Int) / (B:Int)%2)==1)=bo:=zC;have af:=l.out.1.move ((Dn wr.heap.size wr).drew);have bp:=Dm (fun(z:A5) (h:Ymt w z A (A+1) C x y Y (F0 D i) sl)=>(AA (o:=2) h.cel yZ:z.cell? ⟨C,2,none⟩=some (.int .i64 0)));have d7:=Dm a0.out;have N:=Dm l.out;clear q3 a0 l c2
         go_wp2
         refine Oa (S:=(fun z=>z.cell? ⟨C,2,none⟩=some (.int .i64 0))) tN (bp.out _ af) (fun I=>?_);refine AC 0 (some 126) I ?_
         try simp only[A1]
         refine AC 1 (some 127) I ?_
         try simp only[A1]
         refine AC 2 (some 128) I ?_
         try simp only[A1]
         refine B2 3 (some 129) (v:=.int .i64 0) rfl rfl I tN (fun x hx=>zA) ?_
         exact We0
        ·exact We1
    ·exact We2
   ·subst hk;have bt:=PN false (S.drop q1);have T:=ds.out false q1 w2 sX;have av:AT (ptk false) S (q1,0)=_:=ED;have aw:(S.drop q1).length=S.length-q1:=Bf;generalize ptk false (S.drop q1)=z at T bt av;obtain⟨pt,f2,n2⟩:=z;simp only at T bt av;obtain⟨b,rfl⟩:∃b:Nat,pt=(b:Int):=⟨pt.toNat,sX⟩;have ax:Hid (AT (ptk (AG 1)) S (q1,0)=((b:Int),q1+n2,f2)):=Dm av;have pi:=LX 1;rw[show AG 1=false from rfl] at pi;obtain⟨r,bu⟩:=Ah (4*b+a);have dk:4*(b:Int)+(a:Int)=(r:Int):=sX;have cy:=Dm bu;clear bu;obtain⟨q2,bv⟩:=Ah (q1+n2);have dl:q2<=s.size:=sX;rw[bv] at ax T;have a8:st2 inter S (p,0)=(q2,f2):=R6 g.out ax.out;have ap:=Dm a8;have dm:(b:Int)<=15:=sX;clear av aw bv a8;by_cases ab:f2=0
    ·subst ab
     go_wp2_with (with_reducible refine BL rfl 77 _ _ rfl Z Y 77 rfl rfl ao a6 aa ?_;rw[bs.out,dr.out])
     refine(pi _).mono ?_;rintro e w9 ⟨rfl,rfl⟩
     go_wp2_with fail
     refine T.mono ?_;rintro e w3 ⟨rfl,G⟩;have d:=N.out.move G;have d2:w3.cell? ⟨C,2,none⟩=some (.int .i64 1):=AA (o:=2) d.cel rfl;clear T G N bi a7 c1 c2 ao a6 aa cv;have cs:=el.out q2 w3 sX;have de:=fC (S.drop q2);have cq:AT stk S (q2,0)=_:=ED;have aw:(S.drop q2).length=S.length-q2:=Bf;generalize stk (S.drop q2)=z at cs de cq;obtain⟨sp,f3,n3⟩:=z;simp only at cs de cq;obtain⟨q3,dp⟩:=Ah (q2+n3);have ep:q3<=s.size:=sX;rw[dp] at cs cq;have aq:Hid (FM S 1 (q2,0)=(sp,q3,f3)):=Dm cq;clear cq aw de dp;by_cases cr:f3=0
     ·subst cr;have a9:st3 inter S (p,0)=(q3,0):=Lf g.out ap.out aq.out;have ba:=Dm a9;clear a9
      go_wp2_with fail
      refine cs.mono ?_;rintro e w4 ⟨rfl,ct⟩;have a5:=d.move ct;have e3:=AA (o:=3) a5.cel rfl;have f3:=AL (o:=3) a5.cel;have e2:w4.cell? ⟨C,2,none⟩=some (.int .i64 1):=AA (o:=2) a5.cel rfl;have df:=a5.set 3 (.int .i64 sp) (c':={Bx with stuff:=n,skip:=false,kind:=1,step:=sp,mx:=0,my:=0}) (sl':=nilS) rfl;obtain⟨w5,dg⟩:=Ah (w4.setCell ⟨C,3,none⟩ (.int .i64 sp));rw[dg] at df;have ee:=Dm dg;clear cs ct d a5 dg d2
      go_wp2
      rw[ee.out];have bb:=Dm df;clear df
      go_loopw [13,19] (fun u v wr=>∃i t:Nat,i<=2/\t<=s.size/\u=.int .i64 (t:Int)/\v=.int .i64 (i:Int)/\∃mx my,Hid (GP S x y (q3,0) i=(mx,my,(t,0)))/\Hid (Ymt w wr A (A+1) C x y Y {Bx with stuff:=n,skip:=false,kind:=1,step:=sp,mx:=mx,my:=my} nilS)) (fun _ v _=>2-(intOf v).toNat)
      case atStart=>exact⟨0,q3,sX,sX,rfl,rfl,0,0,Dm rfl,bb⟩
      case round=>
       clear bb;obtain⟨i,t,e1,ht,rfl,rfl,mx,my,ai,l⟩:=hrel;obtain rfl|rfl|rfl:i=0\/i=1\/i=2:=sX
       ·obtain rfl:mx=0:=(Nd ai.out).1.symm;obtain rfl:my=0:=(Nd (Nd ai.out).2).1.symm;have U:=l.out;have e2:wr.cell? ⟨C,2,none⟩=some (.int .i64 1):=AA (o:=2) U.cel rfl;have T:=dt.out t wr ht;have ay:=PB S (t,0);have bk:=OY (S.drop t);have aw:(S.drop t).length=S.length-t:=Bf;have aj:AT dtk S (t,0)=_:=ED;have ac:BG S x (t,0)=(AI (AI x+(AT dtk S (t,0)).1),(AT dtk S (t,0)).2):=rfl;rw[aj] at ay ac;generalize dtk (S.drop t)=z at T ay bk ac aj;obtain⟨dd,f4,n4⟩:=z;simp only at T ay bk ac aj;obtain⟨t2,bw⟩:=Ah (t+n4);have bx:t2<=s.size:=sX;rw[bw] at T ac aj;have wl:=PV x;have wh:=PU x;have sw:IntKind.i64.wrap (AI x+dd)=AI x+dd:=Kd _ sX;have az:=Dm ac;have W:=Dm U;clear ac aj aw bk ay bw l U;by_cases an:f4=0
        ·subst an;generalize bz:AI x=p1 at az sw wl wh;have cw:=NL x;rw[bz] at cw;have b6:=NL (p1+dd);generalize AI (p1+dd)=p2 at b6 az;clear bz
         go_wp2_with fail
         refine T.mono ?_;rintro e w3 ⟨rfl,G⟩;have d:=W.out.move G;have p0:w3.cell? ⟨A,0,none⟩=some (.int .i64 x):=AA (cs:=[.int .i64 x,.int .i64 y]) d.two rfl;have e4:=AA (o:=4) d.cel rfl;have f4:=AL (o:=4) d.cel;have P:=d.set 4 (.int .i64 p2) (c':={Bx with stuff:=n,skip:=false,kind:=1,step:=sp,mx:=p2,my:=0}) (sl':=nilS) rfl;exact We6
        ·have g4:(f4 != 0)=true:=by simpa using an
         have F:=Dm (II 0 g.out sX (KW (x:=x) (y:=y) g.out ba.out (ZH (k:=1) rfl ai.out az.out an)) an);exact We3
       ·have e5:=(Nd (Nd ai.out).2).1;obtain rfl:my=0:=(Nd (Nd ai.out).2).1.symm;have U:=l.out;have e2:wr.cell? ⟨C,2,none⟩=some (.int .i64 1):=AA (o:=2) U.cel rfl;have T:=dt.out t wr ht;have ay:=PB S (t,0);have bk:=OY (S.drop t);have aw:(S.drop t).length=S.length-t:=Bf;have aj:AT dtk S (t,0)=_:=ED;have ac:BG S y (t,0)=(AI (AI y+(AT dtk S (t,0)).1),(AT dtk S (t,0)).2):=rfl;rw[aj] at ay ac;generalize dtk (S.drop t)=z at T ay bk ac aj;obtain⟨dd,f4,n4⟩:=z;simp only at T ay bk ac aj;obtain⟨t2,bw⟩:=Ah (t+n4);have bx:t2<=s.size:=sX;rw[bw] at T ac aj;have wl:=PV y;have wh:=PU y;have sw:IntKind.i64.wrap (AI y+dd)=AI y+dd:=Kd _ sX;have az:=Dm ac;have W:=Dm U;clear ac aj aw bk ay bw l U;by_cases an:f4=0
        ·subst an;generalize bz:AI y=p1 at az sw wl wh;have cw:=NL y;rw[bz] at cw;have b6:=NL (p1+dd);generalize AI (p1+dd)=p2 at b6 az;clear bz
         go_wp2_with fail
         refine T.mono ?_;rintro e w3 ⟨rfl,G⟩;have d:=W.out.move G;have p0:w3.cell? ⟨A,1,none⟩=some (.int .i64 y):=AA (cs:=[.int .i64 x,.int .i64 y]) d.two rfl;have e4:=AA (o:=5) d.cel rfl;have f4:=AL (o:=5) d.cel;have P:=d.set 5 (.int .i64 p2) (c':={Bx with stuff:=n,skip:=false,kind:=1,step:=sp,mx:=mx,my:=p2}) (sl':=nilS) rfl;exact We7
        ·have g4:(f4 != 0)=true:=by simpa using an
         have F:=Dm (II 0 g.out sX (KW (x:=x) (y:=y) g.out ba.out (Z6 (k:=1) rfl ai.out az.out)) an);exact We3
       ·have U:=l.out;have b7:=(Rw (S:=S) (k:=1) (x:=x) (y:=y) (st:=(q3,0)) rfl).trans ai.out;have au:=Dm b7;have bc:Hid (st4 inter S x y (p,0)=(t,0)):=Dm (RE g.out ba.out b7);clear b7 l ai;rw[show (Value.int .i64 ((2:Nat):Int))=.int .i64 2 from rfl]
        go_wp2
        generalize wr=wo at *;generalize t=q4 at *;have b8:q4<=s.size:=sX;have H:=OL (inter:=inter) (x:=x) (y:=y) g.out ax.out aq.out au.out;have bl:=R5 g.out ax.out;rw[show ((b:Int)).toNat=b from rfl,show ((a:Int)).toNat=a from rfl,cy.out] at H bl;obtain⟨D,hD⟩:∃D:Cel,{stuff:=n,skip:=false,kind:=1,step:=sp,mx:=mx,my:=my,dc:=fun i=>(BB (AG 1) (AX r i) S (stB (AG 1) r S (q4,0) i)).1,ev:=fun i=>(BB (AG 1) (AX r i) S (stB (AG 1) r S (q4,0) i)).2.1}=D:=⟨_,rfl⟩;rw[hD] at H;have b9:∀i,D.dc i=(BB false (AX r i) S (stB false r S (q4,0) i)).1:=fun i=>yQ;have ca:∀i,D.ev i=(BB false (AX r i) S (stB false r S (q4,0) i)).2.1:=fun i=>yQ;have af:Ymt w wo A (A+1) C x y Y (F0 D 0) nilS:=Ymt.same U yQ;have bm:∀(i:Nat) (q f:Nat×Int),True:=fun _ _ _=>trivial;have cz:=Dm (fun(i tq:Nat) (f:Int) (hi:i<=6) (h:stB false r S (q4,0) i=(tq,f)) (hf:f≠0)=>II (x:=x) (y:=y) i g.out hi zF hf);have cc:=Dm H;have ce:Hid (D.kind=1):=Dm (by rw[<-hD]);have c3:=Dm b9;have c4:=Dm ca;have bd:=Dm af;clear H hD b9 ca af U bl bm bc au
        go_loopw [13,23,24] (fun u v z wr=>∃i t:Nat,i<=6/\t<=s.size/\u=.int .i64 (t:Int)/\v=.int .i64 ((32 / 2^i:Nat):Int)/\z=.int .i64 (i:Int)/\∃sl,Hid (stB false r S (q4,0) i=(t,0))/\Hid (Ymt w wr A (A+1) C x y Y (F0 D i) sl/\(∀j,j<i->C3 wr (C+1) (sl j) (D.ev j))/\∀j,i<=j->sl j=.slice none 0 0)) (fun _ _ z _=>6-(intOf z).toNat)
        case atStart=>exact We8
        case round=>
         clear bd;obtain⟨i,t,d4,ht,rfl,rfl,rfl,sl,a0,l⟩:=hrel;by_cases ak:i<6
         ·have t0:decide ((i:Int)<6)=true:=sU;have c2:wr.cell? ⟨C,2,none⟩=some (.int .i64 1):=AA (o:=2) l.out.1.cel yZ;have cb:=du.out t false (AX r i) wr.drew ht;have a1:BB false (AX r i) S (t,0)=_:=NZ;have bn:=(Sc S t false (AX r i) sX).1;have ag:stB false r S (q4,0) (i+1)=(BB false (AX r i) S (stB false r S (q4,0) i)).2.2:=rfl;have ah:=c3.out i;have E:=c4.out i;rw[a0.out,a1] at ag ah E;have q3:=RD r i sX;generalize AX r i=bo at cb a1 bn ag ah E q3;generalize btk S t false bo=z at cb a1 bn ag ah E;obtain⟨dv,L,t2,f5⟩:=z;simp only at bn ag ah E;have cf:=Dm ah;have c5:=Dm E;have cg:=Dm ag;obtain⟨B,hB⟩:=Ah (32 / 2^i);have ci:1<=B/\B<=32/\B / 2=32 / 2^(i+1):=by
           exact We5
          rw[hB] at q3 ⊢;have c6:=Dm ci.2.2;obtain⟨d5,d6,-⟩:=ci;have pi:=LX 1;rw[show AG 1=false from rfl] at pi;clear ah E ag a1 hB;have qw:IntKind.i64.wrap ((r:Int) / (B:Int))=(r:Int) / (B:Int):=zB;have qm:((r:Int) / (B:Int)).tmod 2=(r:Int) / (B:Int)%2:=zD;have qe:(((r:Int) / (B:Int)%2)==1)=bo:=zC;have af:=l.out.1.move ((Dn wr.heap.size wr).drew);have bp:=Dm (fun(z:A5) (h:Ymt w z A (A+1) C x y Y (F0 D i) sl)=>(AA (o:=2) h.cel yZ:z.cell? ⟨C,2,none⟩=some (.int .i64 1)));have d7:=Dm a0.out;have N:=Dm l.out;clear q3 a0 l c2
          go_wp2
          refine Oa (S:=(fun z=>z.cell? ⟨C,2,none⟩=some (.int .i64 1))) tN (bp.out _ af) (fun I=>?_);refine AC 0 (some 126) I ?_
          try simp only[A1]
          refine AC 1 (some 127) I ?_
          try simp only[A1]
          refine AC 2 (some 128) I ?_
          try simp only[A1]
          refine B2 3 (some 129) (v:=.int .i64 1) rfl rfl I tN (fun x hx=>zA) ?_
          exact We0
         ·exact We1
     ·exact We4
    ·exact We2
   ·subst hk;have bt:=PN true (S.drop q1);have T:=ds.out true q1 w2 sX;have av:AT (ptk true) S (q1,0)=_:=ED;have aw:(S.drop q1).length=S.length-q1:=Bf;generalize ptk true (S.drop q1)=z at T bt av;obtain⟨pt,f2,n2⟩:=z;simp only at T bt av;obtain⟨b,rfl⟩:∃b:Nat,pt=(b:Int):=⟨pt.toNat,sX⟩;have ax:Hid (AT (ptk (AG 3)) S (q1,0)=((b:Int),q1+n2,f2)):=Dm av;have pi:=LX 3;rw[show AG 3=true from rfl] at pi;obtain⟨r,bu⟩:=Ah (4*b+a);have dk:4*(b:Int)+(a:Int)=(r:Int):=sX;have cy:=Dm bu;clear bu;obtain⟨q2,bv⟩:=Ah (q1+n2);have dl:q2<=s.size:=sX;rw[bv] at ax T;have a8:st2 inter S (p,0)=(q2,f2):=R6 g.out ax.out;have ap:=Dm a8;have dm:(b:Int)<=15:=sX;clear av aw bv a8;by_cases ab:f2=0
    ·subst ab
     go_wp2_with (with_reducible refine BL rfl 77 _ _ rfl Z Y 77 rfl rfl ao a6 aa ?_;rw[bs.out,dr.out])
     refine(pi _).mono ?_;rintro e w9 ⟨rfl,rfl⟩
     go_wp2_with fail
     refine T.mono ?_;rintro e w3 ⟨rfl,G⟩;have d:=N.out.move G;have d2:w3.cell? ⟨C,2,none⟩=some (.int .i64 3):=AA (o:=2) d.cel rfl;clear T G N bi a7 c1 c2 ao a6 aa cv;have aq:Hid (FM S 3 (q2,0)=(0,q2,0)):=Dm rfl;have a9:st3 inter S (p,0)=(q2,0):=Lf g.out ap.out aq.out;have ba:=Dm a9;clear a9
     go_wp2
     have au:Hid (EO S 3 x y (q2,0)=(0,0,(q2,0))):=Dm rfl;have bc:Hid (st4 inter S x y (p,0)=(q2,0)):=Dm (RE g.out ba.out au.out);have bb:=Dm d;clear d
     go_loopw [13,19] (fun u v wr=>v=.int .i64 0/\u=.int .i64 (q2:Int)/\Hid (Ymt w wr A (A+1) C x y Y {Bx with stuff:=n,skip:=false,kind:=3,step:=0,mx:=0,my:=0} nilS)) (fun _ _ _=>0)
     case atStart=>exact⟨rfl,rfl,bb⟩
     case round=>
      clear bb;obtain⟨rfl,rfl,l⟩:=hrel;have U:=l.out;have e2:wr.cell? ⟨C,2,none⟩=some (.int .i64 3):=AA (o:=2) U.cel rfl;clear l
      go_wp2
      generalize wr=wo at *;have b8:q2<=s.size:=sX;have H:=OL (inter:=inter) (x:=x) (y:=y) g.out ax.out aq.out au.out;have bl:=R5 g.out ax.out;rw[show ((b:Int)).toNat=b from rfl,show ((a:Int)).toNat=a from rfl,cy.out] at H bl;obtain⟨D,hD⟩:∃D:Cel,{stuff:=n,skip:=false,kind:=3,step:=0,mx:=0,my:=0,dc:=fun i=>(BB (AG 3) (AX r i) S (stB (AG 3) r S (q2,0) i)).1,ev:=fun i=>(BB (AG 3) (AX r i) S (stB (AG 3) r S (q2,0) i)).2.1}=D:=⟨_,rfl⟩;rw[hD] at H;have b9:∀i,D.dc i=(BB true (AX r i) S (stB true r S (q2,0) i)).1:=fun i=>yQ;have ca:∀i,D.ev i=(BB true (AX r i) S (stB true r S (q2,0) i)).2.1:=fun i=>yQ;have af:Ymt w wo A (A+1) C x y Y (F0 D 0) nilS:=Ymt.same U yQ;have bm:∀(i:Nat) (q f:Nat×Int),True:=fun _ _ _=>trivial;have cz:=Dm (fun(i tq:Nat) (f:Int) (hi:i<=6) (h:stB true r S (q2,0) i=(tq,f)) (hf:f≠0)=>II (x:=x) (y:=y) i g.out hi zF hf);have cc:=Dm H;have ce:Hid (D.kind=3):=Dm (by rw[<-hD]);have c3:=Dm b9;have c4:=Dm ca;have bd:=Dm af;clear H hD b9 ca af U bl bm bc au
      go_loopw [13,23,24] (fun u v z wr=>∃i t:Nat,i<=6/\t<=s.size/\u=.int .i64 (t:Int)/\v=.int .i64 ((32 / 2^i:Nat):Int)/\z=.int .i64 (i:Int)/\∃sl,Hid (stB true r S (q2,0) i=(t,0))/\Hid (Ymt w wr A (A+1) C x y Y (F0 D i) sl/\(∀j,j<i->C3 wr (C+1) (sl j) (D.ev j))/\∀j,i<=j->sl j=.slice none 0 0)) (fun _ _ z _=>6-(intOf z).toNat)
      case atStart=>exact⟨0,q2,sX,b8,rfl,rfl,rfl,nilS,Dm rfl,Dm ⟨bd.out,fun j h=>absurd h (Fi j),fun _ _=>rfl⟩⟩
      case round=>
       clear bd;obtain⟨i,t,d4,ht,rfl,rfl,rfl,sl,a0,l⟩:=hrel;by_cases ak:i<6
       ·have t0:decide ((i:Int)<6)=true:=sU;have c2:wr.cell? ⟨C,2,none⟩=some (.int .i64 3):=AA (o:=2) l.out.1.cel yZ;have cb:=du.out t true (AX r i) wr.drew ht;have a1:BB true (AX r i) S (t,0)=_:=NZ;have bn:=(Sc S t true (AX r i) sX).1;have ag:stB true r S (q2,0) (i+1)=(BB true (AX r i) S (stB true r S (q2,0) i)).2.2:=rfl;have ah:=c3.out i;have E:=c4.out i;rw[a0.out,a1] at ag ah E;have q3:=RD r i sX;generalize AX r i=bo at cb a1 bn ag ah E q3;generalize btk S t true bo=z at cb a1 bn ag ah E;obtain⟨dv,L,t2,f5⟩:=z;simp only at bn ag ah E;have cf:=Dm ah;have c5:=Dm E;have cg:=Dm ag;obtain⟨B,hB⟩:=Ah (32 / 2^i);have ci:1<=B/\B<=32/\B / 2=32 / 2^(i+1):=by
         exact We5
        rw[hB] at q3 ⊢;have c6:=Dm ci.2.2;obtain⟨d5,d6,-⟩:=ci;have pi:=LX 3;rw[show AG 3=true from rfl] at pi;clear ah E ag a1 hB;have qw:IntKind.i64.wrap ((r:Int) / (B:Int))=(r:Int) / (B:Int):=zB;have qm:((r:Int) / (B:Int)).tmod 2=(r:Int) / (B:Int)%2:=zD;have qe:(((r:Int) / (B:Int)%2)==1)=bo:=zC;have af:=l.out.1.move ((Dn wr.heap.size wr).drew);have bp:=Dm (fun(z:A5) (h:Ymt w z A (A+1) C x y Y (F0 D i) sl)=>(AA (o:=2) h.cel yZ:z.cell? ⟨C,2,none⟩=some (.int .i64 3)));have d7:=Dm a0.out;have N:=Dm l.out;clear q3 a0 l c2
        go_wp2
        refine Oa (S:=(fun z=>z.cell? ⟨C,2,none⟩=some (.int .i64 3))) tN (bp.out _ af) (fun I=>?_);refine AC 0 (some 126) I ?_
        try simp only[A1]
        refine AC 1 (some 127) I ?_
        try simp only[A1]
        refine AC 2 (some 128) I ?_
        try simp only[A1]
        refine B2 3 (some 129) (v:=.int .i64 3) rfl rfl I tN (fun x hx=>zA) ?_
        exact We0
       ·exact We1
    ·exact We2
   ·subst hk;have bt:=PN true (S.drop q1);have T:=ds.out true q1 w2 sX;have av:AT (ptk true) S (q1,0)=_:=ED;have aw:(S.drop q1).length=S.length-q1:=Bf;generalize ptk true (S.drop q1)=z at T bt av;obtain⟨pt,f2,n2⟩:=z;simp only at T bt av;obtain⟨b,rfl⟩:∃b:Nat,pt=(b:Int):=⟨pt.toNat,sX⟩;have ax:Hid (AT (ptk (AG 4)) S (q1,0)=((b:Int),q1+n2,f2)):=Dm av;have pi:=LX 4;rw[show AG 4=true from rfl] at pi;obtain⟨r,bu⟩:=Ah (4*b+a);have dk:4*(b:Int)+(a:Int)=(r:Int):=sX;have cy:=Dm bu;clear bu;obtain⟨q2,bv⟩:=Ah (q1+n2);have dl:q2<=s.size:=sX;rw[bv] at ax T;have a8:st2 inter S (p,0)=(q2,f2):=R6 g.out ax.out;have ap:=Dm a8;have dm:(b:Int)<=15:=sX;clear av aw bv a8;by_cases ab:f2=0
    ·subst ab
     go_wp2_with (with_reducible refine BL rfl 77 _ _ rfl Z Y 77 rfl rfl ao a6 aa ?_;rw[bs.out,dr.out])
     refine(pi _).mono ?_;rintro e w9 ⟨rfl,rfl⟩
     go_wp2_with fail
     refine T.mono ?_;rintro e w3 ⟨rfl,G⟩;have d:=N.out.move G;have d2:w3.cell? ⟨C,2,none⟩=some (.int .i64 4):=AA (o:=2) d.cel rfl;clear T G N bi a7 c1 c2 ao a6 aa cv;have cs:=el.out q2 w3 sX;have de:=fC (S.drop q2);have cq:AT stk S (q2,0)=_:=ED;have aw:(S.drop q2).length=S.length-q2:=Bf;generalize stk (S.drop q2)=z at cs de cq;obtain⟨sp,f3,n3⟩:=z;simp only at cs de cq;obtain⟨q3,dp⟩:=Ah (q2+n3);have ep:q3<=s.size:=sX;rw[dp] at cs cq;have aq:Hid (FM S 4 (q2,0)=(sp,q3,f3)):=Dm cq;clear cq aw de dp;by_cases cr:f3=0
     ·subst cr;have a9:st3 inter S (p,0)=(q3,0):=Lf g.out ap.out aq.out;have ba:=Dm a9;clear a9
      go_wp2_with fail
      refine cs.mono ?_;rintro e w4 ⟨rfl,ct⟩;have a5:=d.move ct;have e3:=AA (o:=3) a5.cel rfl;have f3:=AL (o:=3) a5.cel;have e2:w4.cell? ⟨C,2,none⟩=some (.int .i64 4):=AA (o:=2) a5.cel rfl;have df:=a5.set 3 (.int .i64 sp) (c':={Bx with stuff:=n,skip:=false,kind:=4,step:=sp,mx:=0,my:=0}) (sl':=nilS) rfl;obtain⟨w5,dg⟩:=Ah (w4.setCell ⟨C,3,none⟩ (.int .i64 sp));rw[dg] at df;have ee:=Dm dg;clear cs ct d a5 dg d2
      go_wp2
      rw[ee.out];have au:Hid (EO S 4 x y (q3,0)=(0,0,(q3,0))):=Dm rfl;have bc:Hid (st4 inter S x y (p,0)=(q3,0)):=Dm (RE g.out ba.out au.out);have bb:=Dm df;clear df
      go_loopw [13,19] (fun u v wr=>v=.int .i64 0/\u=.int .i64 (q3:Int)/\Hid (Ymt w wr A (A+1) C x y Y {Bx with stuff:=n,skip:=false,kind:=4,step:=sp,mx:=0,my:=0} nilS)) (fun _ _ _=>0)
      case atStart=>exact⟨rfl,rfl,bb⟩
      case round=>
       clear bb;obtain⟨rfl,rfl,l⟩:=hrel;have U:=l.out;have e2:wr.cell? ⟨C,2,none⟩=some (.int .i64 4):=AA (o:=2) U.cel rfl;clear l
       go_wp2
       generalize wr=wo at *;have b8:q3<=s.size:=sX;have H:=OL (inter:=inter) (x:=x) (y:=y) g.out ax.out aq.out au.out;have bl:=R5 g.out ax.out;rw[show ((b:Int)).toNat=b from rfl,show ((a:Int)).toNat=a from rfl,cy.out] at H bl;obtain⟨D,hD⟩:∃D:Cel,{stuff:=n,skip:=false,kind:=4,step:=sp,mx:=0,my:=0,dc:=fun i=>(BB (AG 4) (AX r i) S (stB (AG 4) r S (q3,0) i)).1,ev:=fun i=>(BB (AG 4) (AX r i) S (stB (AG 4) r S (q3,0) i)).2.1}=D:=⟨_,rfl⟩;rw[hD] at H;have b9:∀i,D.dc i=(BB true (AX r i) S (stB true r S (q3,0) i)).1:=fun i=>yQ;have ca:∀i,D.ev i=(BB true (AX r i) S (stB true r S (q3,0) i)).2.1:=fun i=>yQ;have af:Ymt w wo A (A+1) C x y Y (F0 D 0) nilS:=Ymt.same U yQ;have bm:∀(i:Nat) (q f:Nat×Int),True:=fun _ _ _=>trivial;have cz:=Dm (fun(i tq:Nat) (f:Int) (hi:i<=6) (h:stB true r S (q3,0) i=(tq,f)) (hf:f≠0)=>II (x:=x) (y:=y) i g.out hi zF hf);have cc:=Dm H;have ce:Hid (D.kind=4):=Dm (by rw[<-hD]);have c3:=Dm b9;have c4:=Dm ca;have bd:=Dm af;clear H hD b9 ca af U bl bm bc au
       go_loopw [13,23,24] (fun u v z wr=>∃i t:Nat,i<=6/\t<=s.size/\u=.int .i64 (t:Int)/\v=.int .i64 ((32 / 2^i:Nat):Int)/\z=.int .i64 (i:Int)/\∃sl,Hid (stB true r S (q3,0) i=(t,0))/\Hid (Ymt w wr A (A+1) C x y Y (F0 D i) sl/\(∀j,j<i->C3 wr (C+1) (sl j) (D.ev j))/\∀j,i<=j->sl j=.slice none 0 0)) (fun _ _ z _=>6-(intOf z).toNat)
       case atStart=>exact⟨0,q3,sX,b8,rfl,rfl,rfl,nilS,Dm rfl,Dm ⟨bd.out,fun j h=>absurd h (Fi j),fun _ _=>rfl⟩⟩
       case round=>
        clear bd;obtain⟨i,t,d4,ht,rfl,rfl,rfl,sl,a0,l⟩:=hrel;by_cases ak:i<6
        ·have t0:decide ((i:Int)<6)=true:=sU;have c2:wr.cell? ⟨C,2,none⟩=some (.int .i64 4):=AA (o:=2) l.out.1.cel yZ;have cb:=du.out t true (AX r i) wr.drew ht;have a1:BB true (AX r i) S (t,0)=_:=NZ;have bn:=(Sc S t true (AX r i) sX).1;have ag:stB true r S (q3,0) (i+1)=(BB true (AX r i) S (stB true r S (q3,0) i)).2.2:=rfl;have ah:=c3.out i;have E:=c4.out i;rw[a0.out,a1] at ag ah E;have q3:=RD r i sX;generalize AX r i=bo at cb a1 bn ag ah E q3;generalize btk S t true bo=z at cb a1 bn ag ah E;obtain⟨dv,L,t2,f5⟩:=z;simp only at bn ag ah E;have cf:=Dm ah;have c5:=Dm E;have cg:=Dm ag;obtain⟨B,hB⟩:=Ah (32 / 2^i);have ci:1<=B/\B<=32/\B / 2=32 / 2^(i+1):=by
          exact We5
         rw[hB] at q3 ⊢;have c6:=Dm ci.2.2;obtain⟨d5,d6,-⟩:=ci;have pi:=LX 4;rw[show AG 4=true from rfl] at pi;clear ah E ag a1 hB;have qw:IntKind.i64.wrap ((r:Int) / (B:Int))=(r:Int) / (B:Int):=zB;have qm:((r:Int) / (B:Int)).tmod 2=(r:Int) / (B:Int)%2:=zD;have qe:(((r:Int) / (B:Int)%2)==1)=bo:=zC;have af:=l.out.1.move ((Dn wr.heap.size wr).drew);have bp:=Dm (fun(z:A5) (h:Ymt w z A (A+1) C x y Y (F0 D i) sl)=>(AA (o:=2) h.cel yZ:z.cell? ⟨C,2,none⟩=some (.int .i64 4)));have d7:=Dm a0.out;have N:=Dm l.out;clear q3 a0 l c2
         go_wp2
         refine Oa (S:=(fun z=>z.cell? ⟨C,2,none⟩=some (.int .i64 4))) tN (bp.out _ af) (fun I=>?_);refine AC 0 (some 126) I ?_
         try simp only[A1]
         refine AC 1 (some 127) I ?_
         try simp only[A1]
         refine AC 2 (some 128) I ?_
         try simp only[A1]
         refine B2 3 (some 129) (v:=.int .i64 4) rfl rfl I tN (fun x hx=>zA) ?_
         exact We0
        ·exact We1
     ·exact We4
    ·exact We2
end Go.Proofs.YtjjmalchelniiaaGreatDoor