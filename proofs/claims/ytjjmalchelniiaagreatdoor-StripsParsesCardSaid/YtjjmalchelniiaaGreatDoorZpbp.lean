/- No condition. -/
import Derived.Test.YtjjmalchelniiaaGreatDoorZpa
import Derived.Test.YtjjmalchelniiaaGreatDoorZps
import Derived.Test.YtjjmalchelniiaaGreatDoorZpz
import Derived.Test.YtjjmalchelniiaaGreatDoorZpbo
open Go.Proofs.Tryz
open Go renaming World->A5,Calls->A9,Value->A0
set_option maxHeartbeats 4000000
namespace Go.Proofs.YtjjmalchelniiaaGreatDoor
open Go.RowKit Go.Lib
theorem Wfh{p:Prop}(h:p:=by
 go_enter func82,ntmps82
 go_wp2
 go_ret
 exact⟨AJ Z.out.symm,zQ⟩):p:=h
theorem Wfg{p:Prop}(h:p:=by
 rw[hsk] at aa
 go_enter func167,ntmps167
 go_wp2_with fail
 rw[ap.out,ao.out];refine(C _).mono ?_;rintro e w1 ⟨rfl,m⟩;have ae:=G.move m;obtain⟨c0,-,-,-,-,-⟩:=T.out _ ae.cel
 go_wp2_with fail
 refine(B _).mono ?_;rintro e w2 ⟨rfl,q⟩;have M:=ae.move q;have E:=M.set 0 (.string sN);have u:=AA (o:=0) M.rows rfl;have r1:=AL (o:=0) M.rows;obtain⟨-,c1,-,-,-,-⟩:=T.out _ E.cel;rw[hsk] at c1;have r2:=AA (o:=1) E.rows rfl;have r3:=AL (o:=1) E.rows;clear c0 m q;have F:=E.set 1 (.string ⟨#[49]⟩);have j:=F.res;have grow:((w2.setCell ⟨R+1+1+1,0,none⟩ (.string sN)).setCell ⟨R+1+1+1,1,none⟩ (.string ⟨#[49]⟩)).heap[R+1+1+1]? =some (.cells V 189 (0,0)):=by rw[<-l.out,aa.out];exact F.rows
 go_wp2_with (first|(with_reducible refine Nk rfl 189 _ rfl (R+1+1+1) rfl 189 V (0,0) _ grow Ol rfl g ?_)|(with_reducible refine AK rfl 189 _ _ rfl (R+1+1) V _ rfl rfl 189 j g X W ?_;intro wf s t))
 refine Hb (Hc rfl _ _ (R+1+1) 189 _ (0,0) _ rfl s Ol rfl g) rfl ?_;exact⟨zR,zO⟩):p:=h
theorem Wff{p:Prop}(h:p:=by
 refine Om (S:=fun z=>Below R w z/\z.heap[R+1]? =some (.cells A 77 (0,0))) tN ⟨F.below.drew,F.cel⟩ (fun b=>?_);refine AC 0 (some 32) b ?_
 try simp only[A1]
 refine AC 1 (some 33) b ?_
 try simp only[A1]
 refine B2 2 (some 34) (v:=.int .i64 c.kind) rfl rfl b tN (fun x N=>by have c0:=(T.out x N.2).2.2.1;go_simp) ?_
 try simp only[A1]
 refine BY 3 (some 35) (v:=.agg A) rfl rfl tN tN tN Wbr b (Or.inl ⟨tN,fun x N=>FW (ty:=77) (x:=.tmp 5) (ad:=⟨R+1,0,none⟩) tN tN (Aq x (R+1) _ _ A (0,0) _ (N.2) Oe rfl H)⟩) ?_
 try simp only[A1]
 refine Oj (rs:=[4]) tN sV ?_;refine Oh rfl (fun K f=>?_) Oi
 go_simp
 go_wp2_with fail
 refine(U.out _ b.1).mono ?_;rintro e w5 ⟨rfl,a5⟩;have a6:=(F.move (Dn _ w4).drew).move a5;refine f.out _ _ (⟨a6.below,a6.cel⟩) (fun a=>?_);clear f K b;have b:=a;clear a
 try simp only[A1]
 refine AC 5 (some 37) b ?_
 try simp only[A1]
 refine Oj (rs:=[6]) tN sV ?_;refine Oh rfl (fun K f=>?_) Oi
 go_simp
 go_wp2_with fail
 refine(ac _).mono ?_;rintro e w6 ⟨rfl,a7⟩;have af:=a6.move a7;refine f.out _ _ (⟨af.below,af.cel⟩) (fun a=>?_);clear f K b;have b:=a;clear a
 try simp only[A1]
 refine AC 7 (some 31) b ?_
 try simp only[A1]
 refine AC 8 (some 39) b ?_
 try simp only[A1]
 refine AC 9 (some 40) b ?_
 try simp only[A1]
 refine AC 10 (some 41) b ?_
 try simp only[A1]
 have Y:=af.set 2 (.string kr);have u:=AA (o:=2) af.rows rfl;have r1:=AL (o:=2) af.rows;refine Oj (rs:=[11]) tN sV ?_;refine Oh rfl (fun K f=>?_) Oi
 go_simp
 refine f.out _ _ ⟨Y.below,Y.cel⟩ (fun a=>?_);clear f K b;have b:=a;clear a;refine On tN ?_ _;clear b;clear u r1;generalize w6.setCell ⟨R+1+1+1,2,none⟩ (.string kr)=w7 at Y ⊢
 go_wp2_with fail
 refine Om (S:=fun z=>Below R w z/\z.heap[R+1]? =some (.cells A 77 (0,0))) tN ⟨Y.below.drew,Y.cel⟩ (fun b=>?_);refine BY 0 (some 43) (v:=.agg A) rfl rfl tN tN tN Wbr b (Or.inl ⟨tN,fun x N=>FW (ty:=77) (x:=.tmp 5) (ad:=⟨R+1,0,none⟩) tN tN (Aq x (R+1) _ _ A (0,0) _ (N.2) Oe rfl H)⟩) ?_
 try simp only[A1]
 refine BY 2 (some 45) (v:=.agg A) rfl rfl tN tN tN Wbr b (Or.inl ⟨tN,fun x N=>FW (ty:=77) (x:=.tmp 5) (ad:=⟨R+1,0,none⟩) tN tN (Aq x (R+1) _ _ A (0,0) _ (N.2) Oe rfl H)⟩) ?_
 try simp only[A1]
 refine Oj (rs:=[1]) tN sV ?_;refine Oh rfl (fun K f=>?_) Oi
 go_simp
 go_wp2_with fail
 refine(Q _).mono ?_;rintro e w8 ⟨rfl,a8⟩;have a9:=(Y.move (Dn _ w7).drew).move a8;refine f.out _ _ (⟨a9.below,a9.cel⟩) (fun a=>?_);clear f K b;have b:=a;clear a
 try simp only[A1]
 refine Oj (rs:=[3]) tN sV ?_;refine Oh rfl (fun K f=>?_) Oi
 go_simp
 go_wp2_with fail
 refine(U.out _ b.1).mono ?_;rintro e bt ⟨rfl,ag⟩;have O:=a9.move ag;refine f.out _ _ (⟨O.below,O.cel⟩) (fun a=>?_);clear f K b;have b:=a;clear a
 try simp only[A1]
 refine AC 4 (some 47) b ?_
 try simp only[A1]
 refine Oj (rs:=[5]) tN sV ?_;refine Oh rfl (fun K f=>?_) Oi
 go_simp
 go_wp2_with fail
 refine(az.out _ b.1).mono ?_;rintro e w9 ⟨rfl,ba⟩;have ah:=O.move ba;refine f.out _ _ (⟨ah.below,ah.cel⟩) (fun a=>?_);clear f K b;have b:=a;clear a
 try simp only[A1]
 refine AC 6 (some 42) b ?_
 try simp only[A1]
 refine AC 7 (some 49) b ?_
 try simp only[A1]
 refine AC 8 (some 50) b ?_
 try simp only[A1]
 refine AC 9 (some 51) b ?_
 try simp only[A1]
 have Z:=ah.set 3 (.string pr);have u:=AA (o:=3) ah.rows rfl;have r1:=AL (o:=3) ah.rows;refine Oj (rs:=[10]) tN sV ?_;refine Oh rfl (fun K f=>?_) Oi
 go_simp
 refine f.out _ _ ⟨Z.below,Z.cel⟩ (fun a=>?_);clear f K b;have b:=a;clear a;refine On tN ?_ _;clear b;clear u r1;generalize w9.setCell ⟨R+1+1+1,3,none⟩ (.string pr)=wA at Z ⊢;obtain⟨-,-,-,c3,-,-⟩:=T.out _ Z.cel
 go_wp2_with fail
 refine(a0.out _ Z.below).mono ?_;rintro e wB ⟨rfl,ai⟩;have bb:=Z.move ai;have bl:=bb.set 4 (.string sr);have u:=AA (o:=4) bb.rows rfl;have r1:=AL (o:=4) bb.rows;have gC:=bl.cel;clear c3 ai
 go_wp2_with (with_reducible refine Nk rfl 77 _ rfl (R+1) rfl 77 A (0,0) _ gC Oe rfl H ?_)
 refine(Q _).mono ?_;rintro e wD ⟨rfl,aj⟩;have I:=bl.move aj;clear u r1 gC aj;cases ik
 ·obtain⟨-,-,-,-,c4,c5⟩:=T.out _ I.cel;have b0:=AA (o:=0) I.pred rfl;have b1:=AA (o:=1) I.pred rfl
  go_wp2_with fail
  refine(a1.out (by trivial) (by first|exact hsk|trivial) _).mono ?_;rintro e wE ⟨rfl,ak⟩;have bm:=I.move ak;obtain⟨D,hD⟩:=Ah wE.heap.size;have bc:=bm.move ((Dn _ wE).alloc (B9 _) (.cells #[.int .i64 d0,.int .i64 d1] 73 (0,0)));have bu:R+4<=D:=by have:=bm.size;omega
  have hd:=heap_alloc_new wE (.cells [.int .i64 d0,.int .i64 d1].toArray 73 (0,0));rw[hD] at hd;obtain⟨wF,r⟩:=Ah (wE.alloc (.cells #[.int .i64 d0,.int .i64 d1] 73 (0,0)));have bd:wF.heap[D]? =some (.cells [.int .i64 d0,.int .i64 d1].toArray 73 (0,0)):=r▸hd;have bv:wF.heap.size=D+1:=by rw[<-r,<-hD];simp
  rw[r] at bc;have bf:=Dm r;have bw:=Dm hD;clear c4 c5 b0 b1 ak hd r hD
  go_wp2_with fail
  rw[bf.out,bw.out];refine(aq.out d0 _ bc.below).mono ?_;rintro e wG ⟨rfl,P⟩;have bg:=bc.move P;have bn:=bg.set 5 (.string (BR d0));have al:=(P.block D sX).trans bd;have u:=AA (o:=5) bg.rows rfl;have r1:=AL (o:=5) bg.rows;have am:(wG.setCell ⟨R+1+1+1,5,none⟩ (.string (BR d0))).heap[D]? =some (.cells [.int .i64 d0,.int .i64 d1].toArray 73 (0,0)):=(Ib wG ⟨R+1+1+1,5,none⟩ (.string (BR d0)) D (by show D≠R+1+1+1;omega)).trans al;have q1:=AA (o:=1) am rfl;clear P
  go_wp2_with fail
  refine(aq.out d1 _ bn.below).mono ?_;rintro e wI ⟨rfl,an⟩;have bh:=bn.move an;have ar:=bh.set 6 (.string (BR d1));have s0:=AA (o:=6) bh.rows rfl;have s1:=AL (o:=6) bh.rows;have j:=ar.res;have grow:(wI.setCell ⟨R+1+1+1,6,none⟩ (.string (BR d1))).heap[R+1+1+1]? =some (.cells V 189 (0,0)):=by rw[<-l.out,aa.out];exact ar.rows
  clear u r1 q1 al am an
  go_wp2_with (first|(with_reducible refine Nk rfl 189 _ rfl (R+1+1+1) rfl 189 V (0,0) _ grow Ol rfl g ?_)|(with_reducible refine AK rfl 189 _ _ rfl (R+1+1) V _ rfl rfl 189 j g X W ?_;intro wf s t))
  refine Hb (Hc rfl _ _ (R+1+1) 189 _ (0,0) _ rfl s Ol rfl g) rfl ?_;exact⟨zR,zM⟩
 ·have j:=I.res;have grow:wD.heap[R+1+1+1]? =some (.cells V 189 (0,0)):=by rw[<-l.out,aa.out];exact I.rows
  go_wp2_with (first|(with_reducible refine Nk rfl 189 _ rfl (R+1+1+1) rfl 189 V (0,0) _ grow Ol rfl g ?_)|(with_reducible refine AK rfl 189 _ _ rfl (R+1+1) V _ rfl rfl 189 j g X W ?_;intro wf s t))
  refine Hb (Hc rfl _ _ (R+1+1) 189 _ (0,0) _ rfl s Ol rfl g) rfl ?_;exact⟨zR,zN⟩):p:=h
theorem zM{p:Prop}(h:p:=by rw[ao.out];exact ar.below.trans (MU t (by omega) (by have:=ar.size;omega))):p:=h
theorem zN{p:Prop}(h:p:=by rw[ao.out];exact I.below.trans (MU t (by omega) (by have:=I.size;omega))):p:=h
theorem zO{p:Prop}(h:p:=by rw[ao.out];exact F.below.trans (MU t (by omega) (by have:=F.size;omega))):p:=h
theorem zP{p:Prop}(h:p:=by have:=h.size;omega):p:=h
theorem zQ{p:Prop}(h:p:=by rw[B.out,f.out];exact a):p:=h
theorem zR{p:Prop}(h:p:=by rw[l.out]):p:=h
abbrev Oh:=@AllReadyH.cons
abbrev Oi:=@AllReadyH.nil
abbrev Oj:=@wpAnyH_ready
abbrev Ol:=@underlying189
abbrev Om:=@wp_region_held_drew
abbrev On:=@wpAnyH_done
abbrev Oo:=@Bool.and_eq_true_iff
abbrev Oq:=@Nat.lt_succ_self
abbrev Ot:=@List.mem_append
theorem MU {w x:A5}{b N:Nat}(h:w.grownBy x (some b))(a:N<=b)(c:N<=w.heap.size):Below N w x:=
 ⟨h.os,h.tape,h.output,h.size,fun k hk=>h.block k sX (fun e=>vF)⟩
set_option maxRecDepth 100000 in
theorem Yqj (c:Cel)(p:Nat->Option Addr)(n k:Nat->Nat)(w:A5)(hc:IF w c p n)(F:BH w):A9 prog 119 #[.agg (AD c fun i=>.slice (p i) (n i) (k i)).toArray] w fun e I=>e=.returned (.bool (HN c))/\Below w.heap.size w I:=by
 have g:=fun x (d:Below w.heap.size w x)=>aM c p n k (x.heap.size+1) x.heap.size [] (x.alloc HD) (AN.fresh rfl (Oq _)) sV sV (fun y J=>by
  have h1:=d.trans ((((Dn _ x).alloc (B9 _) HD).trans (MU J (B9 _) sV)).mono d.size);exact⟨F.below h1,hc.below h1⟩)
 obtain⟨A,s,-,-,-,-,-,-,-,-⟩:=KP c fun i=>.slice (p i) (n i) (k i);obtain⟨R,w0,t,j,L,u,z,l⟩:=R0 w s;rw[s];obtain⟨ev,f⟩:∃ev:Int,(if HN c=true then 0 else 7)=ev:=⟨_,rfl⟩;have B:Hid ((ev==0)=HN c):=Dm (by rw[<-f];cases HN c <;> rfl);have m:Hid (∀x,(Below R w x/\x.heap[R]? =some (.cells A 77 (0,0)))->A9 prog 153 #[.pointer (some ⟨x.heap.size,0,none⟩),.agg A] (x.alloc HD) fun e y=>e=.returned (.int .i64 ev)/\Below R w y/\y.heap[R]? =some (.cells A 77 (0,0))):=Dm (by
  intro x d;have h1:=g x (by rw[t];exact d.1);rw[s] at h1;refine h1.mono ?_;rintro e y ⟨i,_,_,hg,h2⟩;have h3:Below x.heap.size x y:=((Dn _ x).alloc (B9 _) HD).trans (MU hg (B9 _) sV);refine⟨?_,d.1.trans (h3.mono (by have:=d.1.size;omega)),(h3.block R (Am.1 d.2).1).trans d.2⟩;rcases h2 with ⟨_,h4,rfl⟩|⟨h4,rfl⟩
  ·rw[<-f,h4];rfl
  ·rw[<-f,h4];rfl)
 have o:=(l w0 (Dn _ _)).1;have M:=Dm j;have G:=Dm t;clear s j t l g hc F f;generalize HN c=O at *
 go_enter func119,ntmps119
 go_wp2
 rw[M.out,G.out];refine Om (S:=fun x=>Below R w x/\x.heap[R]? =some (.cells A 77 (0,0))) tN ⟨u.drew,o⟩ (fun a=>?_);refine BY 1 (some 4) (v:=.agg A) rfl rfl tN tN tN Wbr a (Or.inl ⟨tN,fun x d=>FW (ty:=77) (x:=.tmp 1) (ad:=⟨R,0,none⟩) tN tN (Aq x (R) _ _ A (0,0) _ (d.2) Oe rfl z)⟩) ?_
 try simp only[A1]
 refine Oj (rs:=[0]) tN sV ?_;refine Oh rfl (fun K q=>?_) Oi
 go_simp
 go_wp2_with fail
 obtain⟨H,r⟩:=Ah w0.drew;rw[r] at a ⊢;have C:R<H.heap.size:=by rw[<-r];show R<w0.heap.size;omega
 have N:=a;refine(Sd _).mono ?_;rintro e P ⟨rfl,rfl⟩;refine q.out _ _ (⟨a.1.alloc (Nat.le_of_lt C) _,BM a.2⟩) (fun b=>?_);clear q K a;have a:=b;clear b
 try simp only[A1]
 refine Oj (rs:=[2]) tN sV ?_;refine Oh rfl (fun K q=>?_) Oi
 go_simp
 go_wp2_with fail
 refine(m.out H N).mono ?_;rintro e Q ⟨rfl,D,E⟩;refine q.out _ _ (⟨D,E⟩) (fun b=>?_);clear q K a;have a:=b;clear b
 try simp only[A1]
 refine AC 3 (some 6) a ?_
 try simp only[A1]
 refine AC 4 (some 2) a ?_
 try simp only[A1]
 refine On tN ?_ _
 go_wp2
 go_ret
 exact⟨AJ B.out,by rw[G.out];exact a.1⟩
set_option maxRecDepth 100000 in
theorem Zt (inter:Bool)(c:Cel)(p:Nat->Option Addr)(n k:Nat->Nat)(w:A5)(hc:IF w c p n)(M:BH w)(N:H3 w):A9 prog 82 #[.bool inter,.agg (AD c fun i=>.slice (p i) (n i) (k i)).toArray] w fun e S=>e=.returned (.bool (CC inter c))/\Below w.heap.size w S:=by
 have g:=fun x (s:Below w.heap.size w x)=>qA c p n k x (hc.below s);have E:=fun x=>Yu4 inter c.kind x;have h:=fun x (s:Below w.heap.size w x)=>Yu5 c (fun i=>.slice (p i) (n i) (k i)) x (N.below s);have u:=fun x=>Yqk c (fun i=>.slice (p i) (n i) (k i)) x;have j:=fun x (s:Below w.heap.size w x)=>Yqj c p n k x (hc.below s) (M.below s);have d:Hid (CC inter c=((decide (0<=c.stuff)&&decide (c.stuff<=64))&&(if c.skip then inter&&JY c else (IJ inter c.kind&&KS c.kind c.step)&&(JI c.kind c.mx c.my&&HN c)))):=Dm rfl;obtain⟨A,D,f0,f1,f2,f3,f4,f5,-,-⟩:=KP c fun i=>.slice (p i) (n i) (k i);obtain⟨R,w0,F,v,T,a,l,y⟩:=R0 w D;simp only[D] at g h u j;rw[F] at g h j;rw[D];have B:=Dm v;have f:=Dm F;have o:=Dm y;have G:=Dm g;have H:=Dm h;have I:=Dm j;clear D v F y g h j hc M N;generalize CC inter c=z at *;generalize JY c=U at *;generalize KS c.kind c.step=O at *;generalize JI c.kind c.mx c.my=P at *;generalize HN c=V at *;by_cases t:c.stuff<0
 ·have t0:decide (c.stuff<0)=true:=Gm t;have Z:=Dm (show z=false by rw[d.out,Gl (by omega:¬ 0<=c.stuff)];rfl);clear t d
  exact Wfh
 by_cases h1:64<c.stuff
 ·have t0:decide (c.stuff<0)=false:=Gl t;have t1:decide (64<c.stuff)=true:=Gm h1;have Z:=Dm (show z=false by rw[d.out,Gl (by omega:¬ c.stuff<=64),Gv];rfl);clear t h1 d
  exact Wfh
 have t0:decide (c.stuff<0)=false:=Gl t;have t1:decide (64<c.stuff)=false:=Gl h1;rw[Gm (by omega:0<=c.stuff),Gm (by omega:c.stuff<=64)] at d;clear t h1;cases hsk:c.skip with
 |true=>
  rw[hsk] at d f1;cases inter with
  |false=>
   have Z:=Dm (show z=false by rw[d.out];rfl)
   exact Wfh
  |true=>
   have Z:=Dm (show z=U by rw[d.out];rfl)
   go_enter func82,ntmps82
   go_wp2_with (with_reducible refine OZ tN 77 _ rfl w.heap.size rfl 77 A (0,0) _ (heap_alloc_new w _) Oe rfl l ?_)
   rw[B.out,f.out];refine(G.out _ a).mono ?_;rintro e Q ⟨rfl,b⟩;have m:=a.trans (b.mono sX)
   go_wp2
   go_ret
   exact⟨AJ Z.out.symm,by rw[f.out];exact m⟩
 |false=>
  rw[hsk] at d f1;have Z:=Dm (show z=(IJ inter c.kind&&O&&(P&&V)) by rw[d.out];rfl);clear d;generalize IJ inter c.kind=W at *
  go_enter func82,ntmps82
  go_wp2_with fail
  rw[B.out,f.out];refine(E _).mono ?_;rintro e Q ⟨rfl,rfl⟩;obtain⟨C,Y⟩:=o.out _ (Dn _ _);cases W with
  |false=>
   go_wp2
   go_ret
   exact⟨AJ wV,by rw[f.out];exact a⟩
  |true=>
   go_wp2_with (with_reducible refine OZ tN 77 _ rfl R rfl 77 A (0,0) _ C Oe rfl l ?_)
   refine(H.out _ a).mono ?_;rintro e Q ⟨rfl,b⟩;have m:=a.trans (b.mono sX);have J:=b.size;have C:=(o.out _ (b.mono sX)).1;cases O with
   |false=>
    go_wp2
    go_ret
    exact⟨AJ wV,by rw[f.out];exact m⟩
   |true=>
    go_wp2_with (with_reducible refine OZ tN 77 _ rfl R rfl 77 A (0,0) _ C Oe rfl l ?_)
    refine(u _).mono ?_;rintro e w2 ⟨rfl,q⟩;have r:=m.trans (q.mono sX);have X:=q.size;have C:=(o.out _ ((b.trans (q.mono J)).mono sX)).1;cases P with
    |false=>
     go_wp2
     go_ret
     exact⟨AJ wV,by rw[f.out];exact r⟩
    |true=>
     go_wp2_with (with_reducible refine OZ tN 77 _ rfl R rfl 77 A (0,0) _ C Oe rfl l ?_)
     refine(I.out _ r).mono ?_;rintro e w3 ⟨rfl,K⟩;have L:=r.trans (K.mono sX)
     go_wp2
     go_ret
     exact⟨AJ wV,by rw[f.out];exact L⟩
def HB (inter:Bool)(x y:Int)(c:Cel):List ByteArray:=
 ⟨(IE inter c.stuff.toNat).toArray⟩::(if c.skip then [⟨#[49]⟩,⟨#[]⟩,⟨#[]⟩,⟨#[]⟩,⟨#[]⟩,⟨#[]⟩] else
  [⟨(KH inter).toArray⟩,BC inter c.kind (DK c:Nat),F4 (AG c.kind) (BT c 4:Nat),E7 c.step]++(if AG c.kind then [⟨#[]⟩,⟨#[]⟩] else [BR (AI (c.mx-AI x)),BR (AI (c.my-AI y))]))
def bgS:Bool->ByteArray
 |true=>⟨#[48]⟩
 |false=>⟨#[]⟩
def KO:List ByteArray:=[⟨#[]⟩,⟨#[]⟩,⟨#[]⟩,⟨#[]⟩,⟨#[]⟩,⟨#[]⟩,⟨#[]⟩]
structure Qn2 (w wr:A5) (R:Nat) (x y:Int) (A:Array A0) (l:List A0):Prop where
 below:Below R w wr
 pred:wr.heap[R]? =some (.cells [.int .i64 x,.int .i64 y].toArray 73 (0,0))
 cel:wr.heap[R+1]? =some (.cells A 77 (0,0))
 res:wr.heap[R+1+1]? =some (.cells (KO.map Value.string).toArray 189 (0,0))
 rows:wr.heap[R+1+1+1]? =some (.cells l.toArray 189 (0,0))
 size:R+4<=wr.heap.size
section
variable {w wr z:A5}{R:Nat}{x y:Int}{A:Array A0}{l l':List A0}
theorem Qn2.move (h:Qn2 w wr R x y A l)(a:Below wr.heap.size wr z):Qn2 w z R x y A l:=
 ⟨h.below.trans (a.mono zP),(a.block _ zP).trans h.pred,(a.block _ zP).trans h.cel,(a.block _ zP).trans h.res,(a.block _ zP).trans h.rows,Ef h.size a.size⟩
theorem Qn2.set (h:Qn2 w wr R x y A l)(o:Nat)(v:A0):Qn2 w (wr.setCell ⟨R+1+1+1,o,none⟩ v) R x y A (l.set o v):=by
 have a:Below (R+1+1+1) wr (wr.setCell ⟨R+1+1+1,o,none⟩ v):=⟨rfl,rfl,rfl,tY,fun k hk=>Ib _ _ _ _ sU⟩;exact⟨h.below.trans (a.mono sX),(a.block _ sX).trans h.pred,(a.block _ sX).trans h.cel,(a.block _ sX).trans h.res,B3 (o:=o) v h.rows,Ef h.size a.size⟩
end
theorem Us (inter:Bool)(x y:Int)(c:Cel):(HB inter x y c).length=7:=by
 unfold HB;cases c.skip <;> cases AG c.kind <;> rfl
theorem qU:∀m,m<64->bits .and .i64 ((m:Nat):Int) 3=((m%4:Nat):Int):=uB
set_option maxRecDepth 100000 in
theorem lS (inter:Bool)(x y:Int)(c:Cel)(p:Nat->Option Addr)(n k:Nat->Nat)(w:A5)(hc:IF w c p n)(ht:Ybt w.heap.size w)(hm:CC inter c=true):
  A9 prog 167 #[.bool inter,.agg #[.int .i64 x,.int .i64 y],.agg (AD c fun i=>.slice (p i) (n i) (k i)).toArray] w fun e J=>e=.returned (.agg ((HB inter x y c).map Value.string).toArray)/\Below w.heap.size w J:=by
 obtain⟨R,hR⟩:=Ah w.heap.size;have bo:=hm;unfold CC at hm;rw[Al,Al,Fg,Fg] at hm;obtain⟨bp,a2⟩:=hm;obtain⟨ns,bi⟩:∃ns:Nat,c.stuff=(ns:Int):=⟨c.stuff.toNat,sX⟩;have C:=fun z=>ZR inter 5 0 z;have bx:(BC inter 5 0).size<=9:=(Qv inter 5 0).2;have B:=fun z=>rA inter ns (bgS inter++BC inter 5 0) z (by cases inter <;> decide +kernel) sX;obtain⟨bq,br,bj⟩:=UR c;have ab:bits .and .i64 ((BT c 6:Nat):Int) 3=((DK c:Nat):Int):=by rw[qU _ bj,Sq,show (4*BT c 4+DK c)%4=DK c by omega]
 have au:((BT c 6:Nat):Int) / 2^2=((BT c 4:Nat):Int):=by have:=Sq c;omega
 obtain⟨A,hA,f0,f1,f2,f3,f4,f5,-,-⟩:=KP c fun i=>.slice (p i) (n i) (k i);have av:∀z,Below R w z->A9 prog 149 #[.agg A] z fun e J=>e=.returned (.int .i64 (BT c 6:Nat))/\Below z.heap.size z J:=fun z hz=>hA▸XX c p n k z (hc.below (hR▸hz));have Q:∀z,A9 prog 151 #[.agg A] z fun e J=>e=.returned (.bool (AG c.kind))/\Below z.heap.size z J:=fun z=>hA▸VN c _ z;have ac:∀z,A9 prog 184 #[.bool inter,.int .i64 c.kind,.int .i64 (bits .and .i64 ((BT c 6:Nat):Int) 3)] z fun e J=>e=.returned (.tuple #[.string (BC inter c.kind (DK c:Nat)),.bool (!(BC inter c.kind (DK c:Nat)).data.toList.isEmpty)])/\Below z.heap.size z J:=fun z=>by rw[ab];exact ZR inter c.kind _ z
 have aw:∀z,Below R w z->A9 prog 186 #[.bool (AG c.kind),.int .i64 (((BT c 6:Nat):Int) / 2^2)] z fun e J=>e=.returned (.tuple #[.string (F4 (AG c.kind) (BT c 4:Nat)),.bool (!(F4 (AG c.kind) (BT c 4:Nat)).data.toList.isEmpty)])/\Below z.heap.size z J:=fun z hz=>by rw[au];exact Qgy _ _ z (Ybt.below (hR▸ht) hz).pats
 have ax:∀z,Below R w z->A9 prog 150 #[.int .i64 c.step] z fun e J=>e=.returned (.tuple #[.string (E7 c.step),.bool (!(E7 c.step).data.toList.isEmpty)])/\Below z.heap.size z J:=fun z hz=>YA c.step z (Ybt.below (hR▸ht) hz).steps;have bk:∀d z,Below R w z->A9 prog 188 #[.int .i64 d] z fun e J=>e=.returned (.tuple #[.string (BR d),.bool (!(BR d).data.toList.isEmpty)])/\Below z.heap.size z J:=fun d z hz=>iZ d z (Ybt.below (hR▸ht) hz).mvd;have ay:AG c.kind=false->c.skip=false->∀z,A9 prog 187 #[.agg #[.int .i64 c.mx,.int .i64 c.my],.agg #[.int .i64 x,.int .i64 y]] z fun e J=>e=.returned (.agg #[.int .i64 (AI (c.mx-AI x)),.int .i64 (AI (c.my-AI y))])/\Below z.heap.size z J:=fun hk hs z=>by
  rw[hs,Ba sY,Al,Al,Al] at a2;have hv:=a2.2.1;unfold JI at hv;rw[hk,Ba sY,Al,Bj,Bj] at hv;exact Yr9 c.mx c.my x y z (Ty.1 hv.1) (Ty.1 hv.2)
 have aa:=Dm (show HB inter x y c=⟨(IE inter ns).toArray⟩::(if c.skip then [⟨#[49]⟩,⟨#[]⟩,⟨#[]⟩,⟨#[]⟩,⟨#[]⟩,⟨#[]⟩] else
  [bgS inter,BC inter c.kind (DK c:Nat),F4 (AG c.kind) (BT c 4:Nat),E7 c.step]++(if AG c.kind then [⟨#[]⟩,⟨#[]⟩] else [BR (AI (c.mx-AI x)),BR (AI (c.my-AI y))])) by
   unfold HB;rw[bi,Dp];cases inter <;> rfl)
 obtain⟨V,hV⟩:=Ah (((HB inter x y c).map Value.string).toArray);have a3:V.size=7:=by rw[<-hV];simp[Us]
 have g:(prog.info? 189).map (·.size)=some V.size:=by rw[a3];kernel_rfl
 have W:V.all (·.oneCell')=true:=by rw[<-hV];simp[Value.oneCell']
 have X:((KO.map Value.string).toArray).size=V.size:=by rw[a3];rfl
 have l:=Dm hV;have G:Qn2 w ((((w.alloc (.cells #[.int .i64 x,.int .i64 y] 73 (0,0))).alloc (.cells A 77 (0,0))).alloc (.cells (KO.map Value.string).toArray 189 (0,0))).alloc (.cells (KO.map Value.string).toArray 189 (0,0))) R x y A (KO.map Value.string):=by
  refine⟨?_,?_,?_,?_,?_,?_⟩
  ·exact((((Dn R w).alloc (Ge hR.symm) _).alloc sU _).alloc sU _).alloc sU _
  ·rw[<-hR];exact BM (BM (BM (heap_alloc_new w _)))
  ·rw[<-hR];exact BM (BM (by simpa using heap_alloc_new (w.alloc (.cells #[.int .i64 x,.int .i64 y] 73 (0,0))) (.cells A 77 (0,0))))
  ·rw[<-hR];exact BM (by simpa using heap_alloc_new ((w.alloc (.cells #[.int .i64 x,.int .i64 y] 73 (0,0))).alloc (.cells A 77 (0,0))) (.cells (KO.map Value.string).toArray 189 (0,0)))
  ·rw[<-hR];simpa using heap_alloc_new (((w.alloc (.cells #[.int .i64 x,.int .i64 y] 73 (0,0))).alloc (.cells A 77 (0,0))).alloc (.cells (KO.map Value.string).toArray 189 (0,0))) (.cells (KO.map Value.string).toArray 189 (0,0))
  ·simp;omega
 have H:(prog.info? 77).map (·.size)=some A.size:=hA▸Rm c _;rw[hA];have ao:=Dm hR;obtain⟨bs,a4⟩:∃bs:A5,((((w.alloc (.cells #[.int .i64 x,.int .i64 y] 73 (0,0))).alloc (.cells A 77 (0,0))).alloc (.cells (KO.map Value.string).toArray 189 (0,0))).alloc (.cells (KO.map Value.string).toArray 189 (0,0)))=bs:=⟨_,rfl⟩;rw[a4] at G;have ap:=Dm (show ((((w.alloc (.cells #[.int .i64 x,.int .i64 y] 73 (0,0))).alloc (.cells A 77 (0,0))).alloc (.cells #[.string ⟨#[]⟩,.string ⟨#[]⟩,.string ⟨#[]⟩,.string ⟨#[]⟩,.string ⟨#[]⟩,.string ⟨#[]⟩,.string ⟨#[]⟩] 189 (0,0))).alloc (.cells #[.string ⟨#[]⟩,.string ⟨#[]⟩,.string ⟨#[]⟩,.string ⟨#[]⟩,.string ⟨#[]⟩,.string ⟨#[]⟩,.string ⟨#[]⟩] 189 (0,0)))=bs from a4);have T:Hid (∀z:A5,z.heap[R+1]? =some (.cells A 77 (0,0))->z.cell? ⟨R+1,0,none⟩=some (.int .i64 (ns:Int))/\z.cell? ⟨R+1,1,none⟩=some (.bool c.skip)/\z.cell? ⟨R+1,2,none⟩=some (.int .i64 c.kind)/\z.cell? ⟨R+1,3,none⟩=some (.int .i64 c.step)/\z.cell? ⟨R+1,4,none⟩=some (.int .i64 c.mx)/\z.cell? ⟨R+1,5,none⟩=some (.int .i64 c.my)):=Dm (fun z hz=>by
  have h:=UC (c:=c) (sl:=fun i=>.slice (p i) (n i) (k i)) (x:=z) (R:=R+1) (by rw[hA];exact hz);rw[bi] at h;exact h)
 have U:=Dm av;have az:=Dm aw;have a0:=Dm ax;have aq:=Dm bk;have a1:=Dm ay;clear a4 hR bp a2 bo hA hV a3 av aw ax bk ay hc ht ab au bq br bj f0 f1 f2 f3 f4 f5;generalize (⟨(IE inter ns).toArray⟩:ByteArray)=sN at *;generalize ((BT c 6:Nat):Int)=cd at *;generalize BC inter c.kind (DK c:Nat)=kr at *;generalize F4 (AG c.kind) (BT c 4:Nat)=pr at *;generalize E7 c.step=sr at *;generalize AG c.kind=ik at *;generalize AI (c.mx-AI x)=d0 at *;generalize AI (c.my-AI y)=d1 at *;generalize HB inter x y c=L at *;cases inter
 ·simp only[bgS] at B aa;generalize BC _ 5 0=s5 at *;cases hsk:c.skip
  ·rw[hsk] at aa
   go_enter func167,ntmps167
   go_wp2_with fail
   rw[ap.out,ao.out];refine(C _).mono ?_;rintro e w1 ⟨rfl,m⟩;have ae:=G.move m;obtain⟨c0,-,-,-,-,-⟩:=T.out _ ae.cel
   go_wp2_with fail
   refine(B _).mono ?_;rintro e w2 ⟨rfl,q⟩;have M:=ae.move q;have E:=M.set 0 (.string sN);have u:=AA (o:=0) M.rows rfl;have r1:=AL (o:=0) M.rows;obtain⟨-,c1,-,-,-,-⟩:=T.out _ E.cel;rw[hsk] at c1;have r2:=AA (o:=1) E.rows rfl;have r3:=AL (o:=1) E.rows;clear c0 m q;have F:=E.set 1 (.string ⟨#[]⟩)
   go_wp2_with fail
   clear u r1 r2 r3 c1;generalize (w2.setCell ⟨R+1+1+1,0,none⟩ (.string sN)).setCell ⟨R+1+1+1,1,none⟩ (.string ⟨#[]⟩)=w4 at F ⊢;exact Wff
  ·exact Wfg
 ·simp only[bgS] at B aa;generalize BC _ 5 0=s5 at *;cases hsk:c.skip
  ·rw[hsk] at aa
   go_enter func167,ntmps167
   go_wp2_with fail
   rw[ap.out,ao.out];refine(C _).mono ?_;rintro e w1 ⟨rfl,m⟩;have ae:=G.move m;obtain⟨c0,-,-,-,-,-⟩:=T.out _ ae.cel
   go_wp2_with fail
   refine(B _).mono ?_;rintro e w2 ⟨rfl,q⟩;have M:=ae.move q;have E:=M.set 0 (.string sN);have u:=AA (o:=0) M.rows rfl;have r1:=AL (o:=0) M.rows;obtain⟨-,c1,-,-,-,-⟩:=T.out _ E.cel;rw[hsk] at c1;have r2:=AA (o:=1) E.rows rfl;have r3:=AL (o:=1) E.rows;clear c0 m q;have F:=E.set 1 (.string ⟨#[48]⟩)
   go_wp2_with fail
   clear u r1 r2 r3 c1;generalize (w2.setCell ⟨R+1+1+1,0,none⟩ (.string sN)).setCell ⟨R+1+1+1,1,none⟩ (.string ⟨#[48]⟩)=w4 at F ⊢;exact Wff
  ·exact Wfg
def GL (l:List ByteArray):List UInt8:=(l.map (·.data.toList)).flatten
theorem Qeg (l:List ByteArray)(x:ByteArray):GL (l++[x])=GL l++x.data.toList:=by simp[GL]
theorem Ya {c:Cel}(h:JY c=true):HN c=true/\D6 c 6=[]:=by
 unfold JY at h;simp only[Al,Bj,Bw,Bs,Av] at h;obtain⟨⟨⟨b,_⟩,_⟩,hd,d⟩:=h;have a:∀i,i<6->c.ev i=[]:=fun i hi=>Dh (d i hi);refine⟨QJ.2 fun i hi=>?_,?_⟩
 ·rw[b,hd i hi,a i hi];rfl
 ·simp only[D6,b,hd 0 (by omega),hd 1 (by omega),hd 2 (by omega),hd 3 (by omega),hd 4 (by omega),hd 5 (by omega),a 0 (by omega),a 1 (by omega),a 2 (by omega),a 3 (by omega),a 4 (by omega),a 5 (by omega)]
  rfl
theorem XS {inter:Bool}{c:Cel}(h:CC inter c=true):HN c=true:=by
 unfold CC at h;rw[Al] at h;cases hs:c.skip with
 |true=>
  rw[hs,Bb rfl] at h;exact(Ya (Oo.1 h.2).2).1
 |false=>
  rw[hs,Ba sY] at h;exact(Oo.1 (Oo.1 h.2).2).2
theorem Yy {inter:Bool}{x y:Int}{c:Cel}(h:CC inter c=true):GL (HB inter x y c)++D6 c 6=E4 inter x y c:=by
 unfold CC at h;rw[Al] at h;unfold E4 HB LN;cases hs:c.skip with
 |true=>
  rw[hs,Bb rfl] at h;rw[(Ya (Oo.1 h.2).2).2];simp[GL]
 |false=>cases hk:AG c.kind <;> simp[GL]
theorem Qbr (inter:Bool)(x y:Int)(c:Cel):∀s∈HB inter x y c,AH s.data.toList=true:=by
 intro s hs;unfold HB at hs;rw[Ee] at hs;rcases hs with rfl|hs
 ·exact(S2 inter _).1
 ·split at hs
  ·simp only[Ee,Eg,Ep] at hs;rcases hs with rfl|rfl|rfl|rfl|rfl|rfl <;> rfl
  ·rw[Ot] at hs;rcases hs with hs|hs
   ·simp only[Ee,Eg,Ep] at hs;rcases hs with rfl|rfl|rfl|rfl
    ·exact(Tv inter).1
    ·exact(Qv _ _ _).1
    ·exact(TQ _ _).1
    ·exact(VI _).1
   ·split at hs
    ·simp only[Ee,Eg,Ep] at hs;rcases hs with rfl|rfl <;> rfl
    ·simp only[Ee,Eg,Ep] at hs;rcases hs with rfl|rfl
     ·exact(SJ _).1
     ·exact(SJ _).1
theorem gH (a b c d e f g:ByteArray)(w:A5):∀(i:Nat) (hi:i < [a,b,c,d,e,f,g].length),(Instr.index 189 (.agg #[.string a,.string b,.string c,.string d,.string e,.string f,.string g]) (.int .i64 (i:Nat))).run prog w=.ok (.string ([a,b,c,d,e,f,g][i]'hi)) w
 |0,_=>tN
 |1,_=>tN
 |2,_=>tN
 |3,_=>tN
 |4,_=>tN
 |5,_=>tN
 |6,_=>tN
 |k+7,h=>absurd h sV
theorem gQ {l:List ByteArray}(h:l.length=7):∃a b c d e f g,l=[a,b,c,d,e,f,g]:=by
 match l,h with
 |[a,b,c,d,e,f,g],_=>exact⟨a,b,c,d,e,f,g,rfl⟩
theorem rP (l:List ByteArray)(i:Nat):(GL (l.take i)).length<=(GL l).length:=by
 have h:GL l=GL (l.take i)++GL (l.drop i):=by
  unfold GL;rw[<-List.flatten_append,<-Cc,Bt]
 rw[h,B8];omega
theorem Yk {inter:Bool}{c:Cel}(h:CC inter c=true)(x y:Int):(E4 inter x y c).length<=20000:=by
 refine lM ?_ fun i hi=>?_
 ·unfold CC at h;rw[Al,Al,Fg,Fg] at h;omega
 ·have h1:=SS (Tq (QJ.1 (XS h) i hi)).2;omega
set_option maxRecDepth 100000 in
theorem Qok (inter:Bool)(x y:Int)(c:Cel)(p:Nat->Option Addr)(n k:Nat->Nat)(B b:Nat)(r:List UInt8)(w:A5)(hw:AN w B b r)(hr:r.length<=68719476736)(hB:B<=w.heap.size)(a:∀z,w.grownBy z (some b)->Ybt z.heap.size z/\IF z c p n)(hm:CC inter c=true):
  A9 prog 139 #[.pointer (some ⟨b,0,none⟩),.bool inter,.agg #[.int .i64 x,.int .i64 y],.agg (AD c fun i=>.slice (p i) (n i) (k i)).toArray] w fun e j=>e=.returned (.int .i64 0)/\AN j B b (r++E4 inter x y c)/\w.grownBy j (some b):=by
 have an:b<w.heap.size:=hw.lt;have P:∀z,w.grownBy z (some b)->A9 prog 82 #[.bool inter,.agg (AD c fun i=>.slice (p i) (n i) (k i)).toArray] z fun e j=>e=.returned (.bool true)/\Below z.heap.size z j:=fun z E=>by
  obtain⟨h1,h2⟩:=a z E;rw[<-hm];exact Zt inter c p n k z h2 h1.tcoef h1.steps
 have Q:∀z,w.grownBy z (some b)->A9 prog 167 #[.bool inter,.agg #[.int .i64 x,.int .i64 y],.agg (AD c fun i=>.slice (p i) (n i) (k i)).toArray] z fun e j=>e=.returned (.agg ((HB inter x y c).map Value.string).toArray)/\Below z.heap.size z j:=fun z E=>by
  obtain⟨h1,h2⟩:=a z E;exact lS inter x y c p n k z h2 h1 hm
 have F:∀i,(GL ((HB inter x y c).take i)).length<=20000:=by
  intro i;have h1:=Bz List.length (Yy (x:=x) (y:=y) hm);have h2:=Yk hm x y;have h3:=rP (HB inter x y c) i;rw[B8] at h1;omega
 have S:∀z,w.grownBy z (some b)->AN z B b (r++GL (HB inter x y c))->A9 prog 153 #[.pointer (some ⟨b,0,none⟩),.agg (AD c fun i=>.slice (p i) (n i) (k i)).toArray] z fun e j=>AN j B b (r++E4 inter x y c)/\z.grownBy j (some b)/\e=.returned (.int .i64 0):=fun z E ac=>by
  have hl:=F 7;rw[Bh (Ge (Us inter x y c))] at hl;refine(aM c p n k B b _ z ac wW (Ef hB E.size) (fun x hx=>⟨(a x (AP E hx)).1.tcoef,(a x (AP E hx)).2⟩)).mono ?_;rintro e j ⟨i,h1,h2,h3,h4⟩;rcases h4 with ⟨rfl,_,rfl⟩|⟨h5,_⟩
  ·rw[Bg,Yy hm] at h2;exact⟨h2,h3,rfl⟩
  ·rw[XS hm] at h5;cases h5
 have ad:=Qbr inter x y c;have T:=Us inter x y c;have G:=Rm c fun i=>.slice (p i) (n i) (k i);generalize (AD c fun i=>.slice (p i) (n i) (k i)).toArray=A at *;obtain⟨R,w1,w2,hR,U,V,ao,ap,W,X,H⟩:=JT w (.cells #[.int .i64 x,.int .i64 y] 73 (0,0)) (.cells A 77 (0,0));have ae:=Dm U;have af:=Dm V;have aq:=Dm hR;have I:w.grownBy w2 (some b):=BF (hR▸H) _;have ag:=Dm P;have ah:=Dm Q;have ai:=Dm S;have aj:=Dm F;have q:AN w2 B b r:=hw.below (hR▸H);have ar:b<R:=sX;have au:B<=R:=sX;generalize HB inter x y c=L at *;generalize E4 inter x y c=az at *;obtain⟨l0,l1,l2,l3,l4,l5,l6,Y⟩:=gQ T;have ab:=Dm Y;have ak:=Dm (fun i hi z=>gH l0 l1 l2 l3 l4 l5 l6 z i hi);clear P Q S F a hm U V hw H hR Y T
 go_enter func139,ntmps139
 go_wp2_with (with_reducible refine Nk rfl 77 _ rfl (w.heap.size+1) rfl 77 A (0,0) _ (eW w _ _) Oe rfl G ?_)
 rw[ae.out,af.out,aq.out];refine(ag.out _ I).mono ?_;rintro e w3 ⟨rfl,f⟩;have J:=AP I (BF f (some b));have t:=q.below f;have k0:w3.heap[R]? =some (.cells [.int .i64 x,.int .i64 y].toArray 73 (0,0)):=(f.block R sX).trans W;have k1:=(f.block (R+1) sX).trans X;have b0:=AA (o:=0) k0 rfl;have b1:=AA (o:=1) k0 rfl;have av:=f.size;clear W X q I
 go_wp2_with (with_reducible refine Nk rfl 77 _ rfl (R+1) rfl 77 A (0,0) _ k1 Oe rfl G ?_)
 refine(ah.out _ J).mono ?_;rintro e w4 ⟨rfl,g⟩;have hg4:=AP J (BF g (some b));have u:=t.below g;have k4:=(g.block (R+1) sX).trans k1;have aw:=g.size;rw[ab.out];simp only[Cn,Cs];clear k0 k1 b0 b1 t J f g
 go_wp2
 go_loopw [21] (fun z wr=>∃i:Nat,i<=7/\z=.int .i64 i/\AN wr B b (r++GL (L.take i))/\w.grownBy wr (some b)/\wr.heap[R+1]? =some (.cells A 77 (0,0))) (fun z _=>7-(RowKit.intOf z).toNat)
 case atStart=>exact⟨0,sX,rfl,by rw[Bk];exact(Fa r).symm▸u,hg4,k4⟩
 case round=>
  clear u hg4 k4;obtain⟨i,ax,rfl,l,hg,hk⟩:=hrel;have al:R+1<wr.heap.size:=(Am.1 hk).1;by_cases K:i<7
  ·have t0:decide ((i:Int)<7)=true:=sU;have Z:i<L.length:=by rw[ab.out];exact K
   have i0:=ak.out i K;obtain⟨s,hs⟩:=Ah ([l0,l1,l2,l3,l4,l5,l6][i]'K);rw[hs] at i0;have M:L[i]=s:=by rw[<-hs];simp only[ab.out]
   have v:AH s.data.toList=true:=M▸ad _ (Bl Z);have N:GL (L.take (i+1))=GL (L.take i)++s.data.toList:=by rw[Bd Z,Qeg,M]
   have C:=aj.out (i+1);rw[N,B8] at C;have aa:s.data.toList.length=s.size:=rfl;have D:=Wl wr B b (r++GL (L.take i)) s l v wW (by have:=hg.size;omega);have ay:=Dm N;clear N C aa v M hs l
   go_wp2_with fail
   refine D.mono ?_;rintro e w5 ⟨rfl,d,m⟩;rw[Bg,<-ay.out] at d;have O:=AP hg m;have am:=(m.block (R+1) al (fun h=>by injection h with h;omega)).trans hk;clear D
   go_wp2
   go_roundw
   case rel=>exact⟨i+1,sX,tP,d,O,am⟩
   case measure=>simp[RowKit.intOf];omega
  ·obtain rfl:i=7:=sX;have Y:L.take 7=L:=by rw[ab.out];rfl
   rw[Y] at l;clear Y
   go_wp2_with (with_reducible refine Nk rfl 77 _ rfl (R+1) rfl 77 A (0,0) _ hk Oe rfl G ?_)
   refine(ai.out _ hg l).mono ?_;rintro e w5 ⟨d,m,rfl⟩;have O:=AP hg m
   go_wp2
   go_ret
   exact⟨rfl,d,O⟩
end Go.Proofs.YtjjmalchelniiaaGreatDoor