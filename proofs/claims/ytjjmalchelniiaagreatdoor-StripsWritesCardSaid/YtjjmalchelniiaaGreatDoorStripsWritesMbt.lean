/- StripsWrites, 46. No condition. -/
import Derived.Test.YtjjmalchelniiaaGreatDoorStripsWritesMa
import Derived.Test.YtjjmalchelniiaaGreatDoorStripsWritesMo
import Derived.Test.YtjjmalchelniiaaGreatDoorStripsWritesMy
import Derived.Test.YtjjmalchelniiaaGreatDoorStripsWritesMbr
open Go.Proofs.Tryz
open Go renaming World->A5,Calls->A9,Value->A0
set_option maxHeartbeats 1000000
namespace Go.Proofs.YtjjmalchelniiaaGreatDoor
open Go.RowKit Go.Lib
abbrev Oi:=@AllReadyH.cons
abbrev Oj:=@AllReadyH.nil
abbrev Ol:=@wpAnyH_ready
abbrev Om:=@wpAnyH_done
abbrev On:=@wp_region_held_drew
abbrev Oo:=@Nat.lt_succ_self
abbrev Oq:=@getElem!_pos
theorem zH (H:Bool)(i:Nat)(I Q:Int):(if H then decide (i≠0/\0<=I/\I<=3/\1<=Q/\Q<=31) else decide (I=0/\Q=0))=LQ (i:Int) H I Q:=by
 unfold LQ;cases H
 ·rfl
 ·rw[Bc rfl,Bc rfl];simp
def Qk (w:A5)(inter:Bool):Prop:=∀(c:Cel) (p:Nat->Option Addr) (n k:Nat->Nat) (x:A5),Below w.heap.size w x->GZ x c p n->
 A9 prog 82 #[.bool inter,.agg (AJ c fun i=>.slice (p i) (n i) (k i)).toArray] x fun e y=>e=.returned (.bool (BL inter c))/\Below x.heap.size x y
theorem Qk.below {w x:A5}{inter:Bool}(h:Qk w inter)(a:Below w.heap.size w x):Qk x inter:=
 fun c p n k y b hc=>h c p n k y (a.trans (b.mono a.size)) hc
set_option maxRecDepth 100000 in
theorem tO (S:ShP)(p b:Option Addr)(ca cb i:Nat)(w:A5)(hi:i<S.rows.length)(hn:S.rows.length<=maxLen)(hr:H0 w b S.rows)(hc:∀c∈S.rows[i].cels,∀k,k<6->(c.ev k).length<=1048576)(hR:Qk w S.hd.inter):
  A9 prog 46 #[.agg (Bx S.hd (.slice p S.hd.supp.length ca) (.slice b S.rows.length cb) S.zeros).toArray,.int .i64 (i:Int)] w fun e w'=>e=.returned (.bool (DZ S.hd.inter (BI S.hd.fmt) i S.rows[i]))/\Below w.heap.size w w':=by
 unfold maxLen at hn;obtain⟨Z,o1,rfl,bk,aa⟩:=MU hr (by omega);obtain⟨r,cap,hq,E,o,J⟩:=aa i hi;clear aa hr;have cE:=fun x=>V8 S.hd (.slice p S.hd.supp.length ca) (.slice (some ⟨Z,o1,none⟩) S.rows.length cb) S.zeros x;generalize S.rows[i]=R at hc E o J ⊢;generalize S.rows.length=n at hi hn cE ⊢;obtain⟨H,I,Q,m⟩:=R;dsimp only at *
 obtain⟨zs,hZ⟩:=Ah (Bx S.hd (.slice p S.hd.supp.length ca) (.slice (some ⟨Z,o1,none⟩) n cb) S.zeros);have z6:zs[6]? =some (.slice (some ⟨Z,o1,none⟩) n cb):=by rw[<-hZ];rfl
 have z3:zs[3]? =some (.bool S.hd.inter):=by rw[<-hZ];rfl
 have ay:(prog.info? 78).map (·.size)=some zs.toArray.size:=by rw[show zs.toArray.size=8 by rw[<-hZ];rfl];kernel_rfl
 rw[hZ] at cE ⊢;clear hZ;have bl:=Pw S.hd.fmt;generalize BI S.hd.fmt=N at *;generalize S.hd.inter=inter at *;obtain⟨rs,l⟩:=Ah ([Value.bool H,.int .i64 I,.int .i64 Q,.slice r m.length cap]);have r3:rs[3]? =some (.slice r m.length cap):=by rw[<-l];rfl
 have rl:rs.length=4:=by rw[<-l];rfl
 have ro:rs.toArray.all (·.oneCell')=true:=by rw[<-l];simp[Value.oneCell']
 have cH:=fun x=>mQ (i:Int) (by omega) H I Q (.slice r m.length cap) x;rw[show (#[Value.bool H,.int .i64 I,.int .i64 Q,.slice r m.length cap]:Array A0)=rs.toArray by rw[<-l]] at cH;have q:∀x,Below w.heap.size w x->x.rangeAt Z (o1+i*4) rs:=fun x a k v d=>by
  obtain⟨a0,a1,a2,a3⟩:=J x a;rw[<-l] at d
  match k,d with
  |0,d=>injection d with d;subst d;exact a0
  |1,d=>injection d with d;subst d;exact a1
  |2,d=>injection d with d;subst d;exact a2
  |3,d=>injection d with d;subst d;exact a3
 clear J l;obtain⟨bf,ab,bm⟩:=UC;obtain⟨Y,az,bn⟩:=Pr;obtain⟨B,wA,g,hB,L,ac,ad,ae,M,O,af⟩:=NC w (.cells zs.toArray 78 (0,0)) (.cells rs.toArray 46 (0,0));have ag:Below w.heap.size w wA:=by rw[<-L];exact(Dq _ w).alloc (Ba _) _
 have ah:=q wA ag;have V:Hid (∀x,Below (B+2) g x->x.cell? ⟨B,3,none⟩=some (.bool inter)/\x.cell? ⟨B+1,3,none⟩=some (.slice r m.length cap)/\Below w.heap.size w x):=Dp fun x a=>by
  have h1:=(a.block B (by omega)).trans M;have h2:=(a.block (B+1) (by omega)).trans O;exact⟨AA h1 z3,AA h2 r3,by rw[hB];exact af.trans (a.mono (by omega))⟩
 have bo:=Dp (fun(x:A5) (a:Below (B+2) g x)=>(a.block B (by omega)).trans M);have bg:=Dp (fun(x:A5) (a:Below (B+2) g x)=>(a.block (B+1) (by omega)).trans O);have K:∀(x y:A5),Below (B+2) g x->Below x.heap.size x y->Below (B+2) g y:=fun x y a hy=>a.trans (hy.mono (by have:=a.size;omega))
 have bh:=Dp (fun(x:A5) (a:Below (B+2) g x)=>((cH x).mono fun e y h=>⟨h.1,K x y a h.2⟩:A9 prog 80 #[.int .i64 (i:Int),.agg rs.toArray] x fun e y=>e=.returned (.bool (LQ (i:Int) H I Q))/\Below (B+2) g y))
 have bp:=Dp (fun(x:A5) (a:Below (B+2) g x)=>((cE x).mono fun e y h=>⟨h.1,K x y a h.2⟩:A9 prog 81 #[.agg zs.toArray] x fun e y=>e=.returned (.int .i64 N)/\Below (B+2) g y));have P:(prog.info? 46).map (·.size)=some rs.toArray.size:=by rw[show rs.toArray.size=4 from rl];kernel_rfl
 have a4:bf.size=rs.toArray.size:=by rw[ab];exact rl.symm
 have t1:decide ((i:Int)<(n:Int))=true:=by simp;omega
 have ai:Below (B+2) g g:=Dq _ _;have a5:=Dp L;have a6:=Dp ac;have aj:=Dp hB;have bi:=Dp ae;have a7:=Dp ad;have bw:=Dp E;have ak:=Dp o;have a8:=Dp hR;have bq:=Dp K;unfold DZ;dsimp only;rw[zH];generalize LQ (i:Int) H I Q=G at *;clear L ac hB ad ae M O af ag z3 r3 q cE cH o hR E K
 go_enter func46,ntmps46
 go_wp2_with (first|(rw[a5.out,aj.out];with_reducible refine Xp rfl _ rfl Z (o1+i*4) rfl rs ah rl ?_)|(with_reducible refine DA rfl 46 _ _ rfl rs.toArray bf 46 rfl rfl P a4 ro ?_;rw[a6.out,a7.out]))
 cases G with
 |false=>
  refine BY (S:=fun x=>Below (B+2) g x) 12 (by kernel_rfl) (by kernel_rfl) ai.drew ?_;simp only[Dt,Bi,Hb,I0];refine AG ?_;simp only[A1];refine IZ 46 _ (B+1) 46 rs.toArray (0,0) _ (by kernel_rfl) rfl rfl (fun x a=>bg.out x a) O6 rfl P ?_;simp only[A1]
  refine AS (by kernel_rfl) bh.out (fun _=>by kernel_rfl) ?_;simp only[A1]
  iterate 2 (refine AG ?_;simp only[A1])
  iterate 6 (refine EA (by kernel_rfl) ?_;simp only[A1])
  refine AG ?_;simp only[A1];refine BV fun x a=>?_;have W:=(V.out x a).2.2
  go_wp2
  go_ret
  exact⟨AH (by rw[Kv,Jw]),by first|exact W|(rw[<-aj.out];exact W)⟩
 |true=>
 refine BY (S:=fun x=>Below (B+2) g x) 12 (by kernel_rfl) (by kernel_rfl) ai.drew ?_;simp only[Dt,Bi,Hb,I0];refine AG ?_;simp only[A1];refine IZ 46 _ (B+1) 46 rs.toArray (0,0) _ (by kernel_rfl) rfl rfl (fun x a=>bg.out x a) O6 rfl P ?_;simp only[A1]
 refine AS (by kernel_rfl) bh.out (fun _=>by kernel_rfl) ?_;simp only[A1]
 iterate 3 (refine AG ?_;simp only[A1])
 refine AN 44 _ ⟨(B+1),3,none⟩ (.slice r m.length cap) (by kernel_rfl) rfl rfl (fun x a=>by have c0:=(V.out x a).2.1;go_simp) ?_;simp only[A1];refine AG ?_;simp only[A1];refine IZ 78 _ B 78 zs.toArray (0,0) _ (by kernel_rfl) rfl rfl (fun x a=>bo.out x a) Od rfl ay ?_;simp only[A1];refine AS (by kernel_rfl) bp.out (fun _=>by kernel_rfl) ?_;simp only[A1]
 iterate 2 (refine AG ?_;simp only[A1])
 refine BV fun x a=>?_;obtain⟨-,k3,W⟩:=V.out x a;by_cases X:(m.length:Int)=N
 case neg=>
  have t0:((m.length:Int) != N)=true:=by rw[Fl];exact X
  have F:=Dp (I3 X);clear X
  go_wp2
  go_ret
  exact⟨AH (by rw[F.out];rfl),by first|exact W|(rw[<-aj.out];exact W)⟩
 have t0:((m.length:Int) != N)=false:=by rw[X];simp
 have F:=Dp (I4 X);have br:m.length<=10000:=by omega
 clear X;rw[t0]
 go_wp2
 clear k3 t0
 go_loopw [28] (fun z wr=>∃j:Nat,z=.int .i64 (j:Int)/\j<=m.length/\Hid ((m.take j).all (BL inter)=true)/\Below (B+2) g wr) (fun z _=>m.length-(intOf z).toNat)
 case atStart=>exact⟨0,rfl,Ds _,Dp rfl,a⟩
 case round=>
  clear a W;obtain⟨j,rfl,hj,ha,hb⟩:=hrel;obtain⟨-,-,T⟩:=V.out wr hb;by_cases u:j<m.length
  ·have t1:decide ((j:Int)<(m.length:Int))=true:=by simp;omega
   obtain⟨b2,o2,rfl,bs,al⟩:=CD.each ak.out (by omega);obtain⟨vs,hV,am⟩:=al j u;have s:=hV.shape.1;have an:=QP hV;obtain⟨p3,ao,ap,-,aq⟩:=hV;have q:wr.rangeAt b2 (o2+j*18) vs:=fun k v d=>am wr T k v d;have a9:=Dp (fun h=>WO u ha.out (f:=BL inter) h);have ba:=Dp (fun h=>aL (f:=BL inter) u h)
   obtain⟨wC,t⟩:=Ah (wr.alloc (.cells vs.toArray 77 (0,0)));obtain⟨C,hC⟩:=Ah wr.heap.size;have ar:wC.heap[C]? =some (.cells vs.toArray 77 (0,0)):=by rw[<-t,<-hC];exact heap_alloc_new wr _
   have A:Below (B+2) g wC:=by rw[<-t];exact hb.alloc (by have:=hb.size;have:=bi.out;omega) _
   obtain⟨k3,-,U⟩:=V.out wC A;have au:wC.heap.size=C+1:=by rw[<-t,<-hC];simp
   have av:(prog.info? 77).map (·.size)=some vs.toArray.size:=by rw[show vs.toArray.size=18 from s];kernel_rfl
   have bb:Y.size=vs.toArray.size:=by rw[az];exact s.symm
   have bj:=a8.out m[j] p3 (fun i=>(m[j].ev i).length) ao wC U (fun i hi=>⟨rfl,hc _ (Bn u) i hi,(aq i hi).2.below U⟩);rw[<-ap] at bj;have bc:=Dp t;have bt:=Dp au;have bu:=Dp hC;clear ap am al ha t au aq hC;generalize BL inter m[j]=y at *
   go_wp2_with (first|(with_reducible refine TT rfl _ rfl b2 (o2+j*18) rfl vs q s ?_)|(with_reducible refine DA rfl 77 _ _ rfl vs.toArray Y 77 rfl rfl av bb an ?_;rw[bc.out])|(rw[bu.out];with_reducible refine N5 rfl 77 _ rfl C rfl 77 vs.toArray (0,0) _ ar N0 rfl av ?_))
   refine bj.mono ?_;rintro e w2 ⟨rfl,D⟩;have aw:Below (B+2) g w2:=A.trans (D.mono (by have:=A.size;have:=bi.out;omega));have ax:=(V.out w2 aw).2.2;clear D ar q A k3 U;cases y with
   |true=>
    have bd:=Dp (a9.out rfl);clear a9 ba
    go_wp2
    go_roundw
    case rel=>exact⟨j+1,by go_num,by omega,bd,aw⟩
    case measure=>simp[intOf];omega
   |false=>
    have bd:=Dp (ba.out rfl);clear a9 ba
    go_wp2
    go_ret
    exact⟨AH (by rw[F.out,bd.out];rfl),by first|exact ax|(rw[<-aj.out];exact ax)⟩
  ·obtain rfl:m.length=j:=by omega
   have t1:decide ((m.length:Int)<(m.length:Int))=false:=by simp
   have bv:=Dp (show m.all (BL inter)=true by have:=ha.out;rwa [J1] at this)
   go_wp2
   go_ret
   exact⟨AH (by rw[F.out,bv.out];rfl),by first|exact T|(rw[<-aj.out];exact T)⟩
theorem X0 {w x:A5}{b N:Nat}(h:w.grownBy x (some b))(a:N<=b)(c:N<=w.heap.size):Below N w x:=
 ⟨h.os,h.tape,h.output,h.size,fun k d=>h.block k (by omega) (fun e=>by injection e with e;omega)⟩
def NA (h:Shd)(z:Int)(n:Nat):Bool:=E5 h&&(decide (0<=z)&&(decide (z<=262144)&&((n:Int)==BJ h.fmt)))
set_option maxRecDepth 100000 in
theorem rV (h:Shd)(p b:Option Addr)(ca cb n:Nat)(z:Int)(w:A5)(hl:h.supp.length<=maxLen)(hs:CA w p h.supp):
  A9 prog 44 #[.agg (Bx h (.slice p h.supp.length ca) (.slice b n cb) z).toArray] w fun e U=>e=.returned (.bool (NA h z n))/\Below w.heap.size w U:=by
 have f:=fun x a (d:Below w.heap.size w x) (hm:E5 h=false)=>yK a h p ca (.slice b n cb) z hl x (hs.below d) hm
 have l:=fun(x:A5) (d:Below w.heap.size w x) (hm:E5 h=true)=>bB (x.alloc GS) (x.heap.size+1) x.heap.size [] h p ca (.slice b n cb) z (fun y V=>hs.below (d.trans ((((Dq _ x).alloc (Ba _) GS).trans (X0 V (Ba _) (by simp))).mono d.size))) hm (AQ.fresh rfl (Oo _)) (by simp) (by simp)
 obtain⟨zs,r⟩:=Ah (Bx h (.slice p h.supp.length ca) (.slice b n cb) z);have z2:zs[2]? =some (.int .i64 h.fmt):=by rw[<-r];rfl
 have W:zs[6]? =some (.slice b n cb):=by rw[<-r];rfl
 have t:zs[7]? =some (.int .i64 z):=by rw[<-r];rfl
 have I:(prog.info? 78).map (·.size)=some zs.toArray.size:=by rw[show zs.toArray.size=8 by rw[<-r];rfl];kernel_rfl
 simp only[r] at f l ⊢;obtain⟨B,m⟩:=Ah w.heap.size;obtain⟨s,g⟩:=Ah (w.alloc (.cells zs.toArray 78 (0,0)));have u:s.heap[B]? =some (.cells zs.toArray 78 (0,0)):=by rw[<-g,<-m];exact heap_alloc_new w _
 have J:Below B w s:=by rw[<-m,<-g];exact(Dq _ w).alloc (Ba _) _
 have X:s.heap.size=B+1:=by rw[<-g,<-m];simp
 obtain⟨ev,j⟩:∃ev:Int,(if E5 h=true then 0 else 12)=ev:=⟨_,rfl⟩;have A:Hid (∀x,(Below B w x/\x.heap[B]? =some (.cells zs.toArray 78 (0,0)))->A9 prog 71 #[.pointer (some ⟨x.heap.size,0,none⟩),.agg zs.toArray] (x.alloc GS) fun e y=>e=.returned (.int .i64 ev)/\Below B w y/\y.heap[B]? =some (.cells zs.toArray 78 (0,0))):=Dp (by
  intro x d;have L:B<x.heap.size:=(Am.1 d.2).1;have k:∀y,Below x.heap.size x y->Below B w y/\y.heap[B]? =some (.cells zs.toArray 78 (0,0)):=fun y h3=>⟨d.1.trans (h3.mono (by omega)),(h3.block B L).trans d.2⟩;have o:Below x.heap.size x (x.alloc GS):=(Dq _ x).alloc (Ba _) GS;cases hm:E5 h with
  |false=>
   refine(f (x.alloc GS) ⟨x.heap.size,0,none⟩ (by rw[m];exact d.1.trans (o.mono (by omega))) hm).mono ?_;rintro e y ⟨rfl,h2⟩;exact⟨by rw[<-j,hm];rfl,k y (o.trans (h2.mono (by simp)))⟩
  |true=>
   refine(l x (by rw[m];exact d.1) hm).mono ?_;rintro e y ⟨rfl,_,Y⟩;exact⟨by rw[<-j,hm];rfl,k y (o.trans (X0 Y (Ba _) (by simp)))⟩)
 have C:Hid (∀b,E5 h=b->(ev==0)=b):=Dp (by intro b Z;rw[<-j,Z];cases b <;> rfl);have c2:=fun w=>QI h.fmt w;have aa:=Dp g;have D:=Dp m;have M:Below B w s.drew/\s.drew.heap[B]? =some (.cells zs.toArray 78 (0,0)):=⟨J.drew,u⟩;clear r g m f l j u hs;unfold NA;generalize E5 h=sm at *;generalize h.fmt=E at *;generalize BP E=ac at *
 obtain⟨ab,q⟩:=Ah (BJ E);rw[q];simp only[q] at c2;clear q;have F:=C.out sm rfl;clear C;obtain⟨d2,h2⟩:=Ah (decide (0<=z));obtain⟨d3,h3⟩:=Ah (decide (z<=262144));rw[h2,h3];obtain⟨d4,h4⟩:=Ah (((n:Int)==ab));rw[h4];have N:sm=false\/(sm=true/\d2=false)\/(sm=true/\d2=true/\d3=false)\/(sm=true/\d2=true/\d3=true):=by
  clear F h2 h3 h4;cases sm <;> cases d2 <;> cases d3 <;> simp
 go_enter func44,ntmps44
 go_wp2_with fail
 refine(c2 _).mono ?_;rintro e w1 ⟨rfl,rfl⟩
 go_wp2
 rw[aa.out,D.out];refine On (S:=fun x=>Below B w x/\x.heap[B]? =some (.cells zs.toArray 78 (0,0))) (by kernel_rfl) M (fun c=>?_)
 refine C8 1 (some 12) (v:=.agg zs.toArray) rfl rfl (by kernel_rfl) (by kernel_rfl) (by kernel_rfl) (fun _ _ _ h=>h) c (Or.inl ⟨by kernel_rfl,fun x d=>GA (ty:=78) (x:=.tmp 1) (ad:=⟨B,0,none⟩) (by kernel_rfl) (by kernel_rfl) (As x (B) _ _ zs.toArray (0,0) _ (d.2) Od rfl I)⟩) ?_
 try simp only[A1]
 refine Ol (rs:=[0]) (by kernel_rfl) (by simp) ?_;refine Oi rfl (fun K G=>?_) Oj
 go_simp
 go_wp2_with fail
 obtain⟨T,O⟩:=Ah s.drew;rw[O] at c ⊢;have P:B<T.heap.size:=(Am.1 c.2).1;have hX:=c;refine(Ru _).mono ?_;rintro e w2 ⟨rfl,rfl⟩;refine G.out _ _ (⟨c.1.alloc (Nat.le_of_lt P) _,BW c.2⟩) (fun i=>?_);clear G K c;have c:=i;clear i
 try simp only[A1]
 refine Ol (rs:=[2]) (by kernel_rfl) (by simp) ?_;refine Oi rfl (fun K G=>?_) Oj
 go_simp
 go_wp2_with fail
 refine(A.out T hX).mono ?_;rintro e w3 ⟨rfl,Q,R⟩;refine G.out _ _ (⟨Q,R⟩) (fun i=>?_);clear G K c;have c:=i;clear i
 try simp only[A1]
 rcases N with rfl|⟨rfl,rfl⟩|⟨rfl,rfl,rfl⟩|⟨rfl,rfl,rfl⟩
 ·refine C8 3 (some 14) (v:=?_) rfl rfl (by kernel_rfl) (by kernel_rfl) (by kernel_rfl) (fun _ _ _ h=>h) c (Or.inl ⟨by kernel_rfl,?_⟩) ?_
  rotate_left
  ·(intro x _;go_simp;try with_reducible rfl)
  rotate_right
  try simp only[A1]
  refine AM 4 (some 15) c ?_
  try simp only[A1]
  refine C8 5 (some 16) (v:=undef) rfl rfl (by kernel_rfl) (by kernel_rfl) (by kernel_rfl) (fun _ _ _ h=>h) c (Or.inr ⟨by kernel_rfl,rfl⟩) ?_
  try simp only[A1]
  refine C8 6 (some 17) (v:=undef) rfl rfl (by kernel_rfl) (by kernel_rfl) (by kernel_rfl) (fun _ _ _ h=>h) c (Or.inr ⟨by kernel_rfl,rfl⟩) ?_
  try simp only[A1]
  refine C8 7 (some 18) (v:=undef) rfl rfl (by kernel_rfl) (by kernel_rfl) (by kernel_rfl) (fun _ _ _ h=>h) c (Or.inr ⟨by kernel_rfl,rfl⟩) ?_
  try simp only[A1]
  refine AM 8 (some 19) c ?_
  try simp only[A1]
  refine AM 9 (some 20) c ?_
  try simp only[A1]
  refine C8 10 (some 21) (v:=undef) rfl rfl (by kernel_rfl) (by kernel_rfl) (by kernel_rfl) (fun _ _ _ h=>h) c (Or.inr ⟨by kernel_rfl,rfl⟩) ?_
  try simp only[A1]
  refine C8 11 (some 22) (v:=undef) rfl rfl (by kernel_rfl) (by kernel_rfl) (by kernel_rfl) (fun _ _ _ h=>h) c (Or.inr ⟨by kernel_rfl,rfl⟩) ?_
  try simp only[A1]
  refine C8 12 (some 23) (v:=undef) rfl rfl (by kernel_rfl) (by kernel_rfl) (by kernel_rfl) (fun _ _ _ h=>h) c (Or.inr ⟨by kernel_rfl,rfl⟩) ?_
  try simp only[A1]
  refine AM 13 (some 24) c ?_
  try simp only[A1]
  refine AM 14 (some 25) c ?_
  try simp only[A1]
  refine C8 15 (some 26) (v:=undef) rfl rfl (by kernel_rfl) (by kernel_rfl) (by kernel_rfl) (fun _ _ _ h=>h) c (Or.inr ⟨by kernel_rfl,rfl⟩) ?_
  try simp only[A1]
  refine C8 16 (some 27) (v:=undef) rfl rfl (by kernel_rfl) (by kernel_rfl) (by kernel_rfl) (fun _ _ _ h=>h) c (Or.inr ⟨by kernel_rfl,rfl⟩) ?_
  try simp only[A1]
  refine C8 17 (some 28) (v:=undef) rfl rfl (by kernel_rfl) (by kernel_rfl) (by kernel_rfl) (fun _ _ _ h=>h) c (Or.inr ⟨by kernel_rfl,rfl⟩) ?_
  try simp only[A1]
  refine C8 18 (some 29) (v:=undef) rfl rfl (by kernel_rfl) (by kernel_rfl) (by kernel_rfl) (fun _ _ _ h=>h) c (Or.inr ⟨by kernel_rfl,rfl⟩) ?_
  try simp only[A1]
  refine C8 19 (some 30) (v:=undef) rfl rfl (by kernel_rfl) (by kernel_rfl) (by kernel_rfl) (fun _ _ _ h=>h) c (Or.inr ⟨by kernel_rfl,rfl⟩) ?_
  try simp only[A1]
  refine AM 20 (some 31) c ?_
  try simp only[A1]
  refine AM 21 (some 2) c ?_
  try simp only[A1]
  refine Om (by kernel_rfl) ?_ _
  go_wp2
  go_ret
  exact⟨AH (by rfl),by rw[D.out];exact c.1⟩
 ·refine C8 3 (some 14) (v:=?_) rfl rfl (by kernel_rfl) (by kernel_rfl) (by kernel_rfl) (fun _ _ _ h=>h) c (Or.inl ⟨by kernel_rfl,?_⟩) ?_
  rotate_left
  ·(intro x _;go_simp;try with_reducible rfl)
  rotate_right
  try simp only[A1]
  refine AM 4 (some 15) c ?_
  try simp only[A1]
  refine AM 5 (some 16) c ?_
  try simp only[A1]
  refine FV 6 (some 17) (v:=.int .i64 z) rfl rfl c (by kernel_rfl) (fun x d=>by have H:=AA d.2 t;go_simp) ?_
  try simp only[A1]
  refine AM 7 (some 18) c ?_
  try simp only[A1]
  refine AM 8 (some 19) c ?_
  try simp only[A1]
  refine AM 9 (some 20) c ?_
  try simp only[A1]
  refine C8 10 (some 21) (v:=undef) rfl rfl (by kernel_rfl) (by kernel_rfl) (by kernel_rfl) (fun _ _ _ h=>h) c (Or.inr ⟨by kernel_rfl,rfl⟩) ?_
  try simp only[A1]
  refine C8 11 (some 22) (v:=undef) rfl rfl (by kernel_rfl) (by kernel_rfl) (by kernel_rfl) (fun _ _ _ h=>h) c (Or.inr ⟨by kernel_rfl,rfl⟩) ?_
  try simp only[A1]
  refine C8 12 (some 23) (v:=undef) rfl rfl (by kernel_rfl) (by kernel_rfl) (by kernel_rfl) (fun _ _ _ h=>h) c (Or.inr ⟨by kernel_rfl,rfl⟩) ?_
  try simp only[A1]
  refine AM 13 (some 24) c ?_
  try simp only[A1]
  refine AM 14 (some 25) c ?_
  try simp only[A1]
  refine C8 15 (some 26) (v:=undef) rfl rfl (by kernel_rfl) (by kernel_rfl) (by kernel_rfl) (fun _ _ _ h=>h) c (Or.inr ⟨by kernel_rfl,rfl⟩) ?_
  try simp only[A1]
  refine C8 16 (some 27) (v:=undef) rfl rfl (by kernel_rfl) (by kernel_rfl) (by kernel_rfl) (fun _ _ _ h=>h) c (Or.inr ⟨by kernel_rfl,rfl⟩) ?_
  try simp only[A1]
  refine C8 17 (some 28) (v:=undef) rfl rfl (by kernel_rfl) (by kernel_rfl) (by kernel_rfl) (fun _ _ _ h=>h) c (Or.inr ⟨by kernel_rfl,rfl⟩) ?_
  try simp only[A1]
  refine C8 18 (some 29) (v:=undef) rfl rfl (by kernel_rfl) (by kernel_rfl) (by kernel_rfl) (fun _ _ _ h=>h) c (Or.inr ⟨by kernel_rfl,rfl⟩) ?_
  try simp only[A1]
  refine C8 19 (some 30) (v:=undef) rfl rfl (by kernel_rfl) (by kernel_rfl) (by kernel_rfl) (fun _ _ _ h=>h) c (Or.inr ⟨by kernel_rfl,rfl⟩) ?_
  try simp only[A1]
  refine AM 20 (some 31) c ?_
  try simp only[A1]
  refine AM 21 (some 2) c ?_
  try simp only[A1]
  refine Om (by kernel_rfl) ?_ _
  go_wp2
  go_ret
  exact⟨AH (by rfl),by rw[D.out];exact c.1⟩
 ·refine C8 3 (some 14) (v:=?_) rfl rfl (by kernel_rfl) (by kernel_rfl) (by kernel_rfl) (fun _ _ _ h=>h) c (Or.inl ⟨by kernel_rfl,?_⟩) ?_
  rotate_left
  ·(intro x _;go_simp;try with_reducible rfl)
  rotate_right
  try simp only[A1]
  refine AM 4 (some 15) c ?_
  try simp only[A1]
  refine AM 5 (some 16) c ?_
  try simp only[A1]
  refine FV 6 (some 17) (v:=.int .i64 z) rfl rfl c (by kernel_rfl) (fun x d=>by have H:=AA d.2 t;go_simp) ?_
  try simp only[A1]
  refine AM 7 (some 18) c ?_
  try simp only[A1]
  refine AM 8 (some 19) c ?_
  try simp only[A1]
  refine AM 9 (some 20) c ?_
  try simp only[A1]
  refine AM 10 (some 21) c ?_
  try simp only[A1]
  refine FV 11 (some 22) (v:=.int .i64 z) rfl rfl c (by kernel_rfl) (fun x d=>by have H:=AA d.2 t;go_simp) ?_
  try simp only[A1]
  refine AM 12 (some 23) c ?_
  try simp only[A1]
  refine AM 13 (some 24) c ?_
  try simp only[A1]
  refine AM 14 (some 25) c ?_
  try simp only[A1]
  refine C8 15 (some 26) (v:=undef) rfl rfl (by kernel_rfl) (by kernel_rfl) (by kernel_rfl) (fun _ _ _ h=>h) c (Or.inr ⟨by kernel_rfl,rfl⟩) ?_
  try simp only[A1]
  refine C8 16 (some 27) (v:=undef) rfl rfl (by kernel_rfl) (by kernel_rfl) (by kernel_rfl) (fun _ _ _ h=>h) c (Or.inr ⟨by kernel_rfl,rfl⟩) ?_
  try simp only[A1]
  refine C8 17 (some 28) (v:=undef) rfl rfl (by kernel_rfl) (by kernel_rfl) (by kernel_rfl) (fun _ _ _ h=>h) c (Or.inr ⟨by kernel_rfl,rfl⟩) ?_
  try simp only[A1]
  refine C8 18 (some 29) (v:=undef) rfl rfl (by kernel_rfl) (by kernel_rfl) (by kernel_rfl) (fun _ _ _ h=>h) c (Or.inr ⟨by kernel_rfl,rfl⟩) ?_
  try simp only[A1]
  refine C8 19 (some 30) (v:=undef) rfl rfl (by kernel_rfl) (by kernel_rfl) (by kernel_rfl) (fun _ _ _ h=>h) c (Or.inr ⟨by kernel_rfl,rfl⟩) ?_
  try simp only[A1]
  refine AM 20 (some 31) c ?_
  try simp only[A1]
  refine AM 21 (some 2) c ?_
  try simp only[A1]
  refine Om (by kernel_rfl) ?_ _
  go_wp2
  go_ret
  exact⟨AH (by rfl),by rw[D.out];exact c.1⟩
 ·refine C8 3 (some 14) (v:=?_) rfl rfl (by kernel_rfl) (by kernel_rfl) (by kernel_rfl) (fun _ _ _ h=>h) c (Or.inl ⟨by kernel_rfl,?_⟩) ?_
  rotate_left
  ·(intro x _;go_simp;try with_reducible rfl)
  rotate_right
  try simp only[A1]
  refine AM 4 (some 15) c ?_
  try simp only[A1]
  refine AM 5 (some 16) c ?_
  try simp only[A1]
  refine FV 6 (some 17) (v:=.int .i64 z) rfl rfl c (by kernel_rfl) (fun x d=>by have H:=AA d.2 t;go_simp) ?_
  try simp only[A1]
  refine AM 7 (some 18) c ?_
  try simp only[A1]
  refine AM 8 (some 19) c ?_
  try simp only[A1]
  refine AM 9 (some 20) c ?_
  try simp only[A1]
  refine AM 10 (some 21) c ?_
  try simp only[A1]
  refine FV 11 (some 22) (v:=.int .i64 z) rfl rfl c (by kernel_rfl) (fun x d=>by have H:=AA d.2 t;go_simp) ?_
  try simp only[A1]
  refine AM 12 (some 23) c ?_
  try simp only[A1]
  refine AM 13 (some 24) c ?_
  try simp only[A1]
  refine AM 14 (some 25) c ?_
  try simp only[A1]
  refine AM 15 (some 26) c ?_
  try simp only[A1]
  refine FV 16 (some 27) (v:=.slice b n cb) rfl rfl c (by kernel_rfl) (fun x d=>by have H:=AA d.2 W;go_simp) ?_
  try simp only[A1]
  refine AM 17 (some 28) c ?_
  try simp only[A1]
  refine AM 18 (some 29) c ?_
  try simp only[A1]
  refine AM 19 (some 30) c ?_
  try simp only[A1]
  refine AM 20 (some 31) c ?_
  try simp only[A1]
  refine AM 21 (some 2) c ?_
  try simp only[A1]
  refine Om (by kernel_rfl) ?_ _
  go_wp2
  go_ret
  exact⟨AH (by rfl),by rw[D.out];exact c.1⟩
theorem YG {α:Type}{f g:Nat->α->Bool}:∀(s:Nat) (l:List α),(∀n,∀a∈l,f n a=g n a)->AT f s l=AT g s l
 |_,[],_=>rfl
 |s,a::l,h=>by rw[AT,AT,h s a Fa,YG (s+1) l fun n b c=>h n b (Ez _ c)]
theorem Wm {f:Nat->Cel->Bool}{N:Nat}:∀(s:Nat) (l:List RowP),(∀r∈l,r.cels.length=N)->AT f (s*N) (l.flatMap (·.cels))=AT (fun i (r:RowP)=>AT f (i*N) r.cels) s l
 |_,[],_=>rfl
 |s,r::l,h=>by
  rw[G8,Rt,h r Fa,AT,<-Wm (s+1) l fun x a=>h x (Ez _ a),Cx,Nat.one_mul]
theorem kV {inter:Bool}{c:Cel}(h:BL inter c=true):AD c.kind = !N2 c:=by
 unfold BL at h;rw[Al] at h;have h2:=h.2;unfold N2;cases hs:c.skip with
 |true=>
  rw[hs,Bc rfl,Al] at h2;have h3:=h2.2;unfold FY at h3;simp only[Al,Bm] at h3;rw[h3.1.1.1]
  rfl
 |false=>
  rw[hs,Bb (by decide)] at h2;simp only[Al] at h2;have h3:=h2.1.1;unfold EJ at h3;have h4:c.kind=3\/c.kind=4\/c.kind=0\/c.kind=1:=by
   simp only[B6,Al,Bm] at h3;omega
  rcases h4 with e|e|e|e <;> (rw[e];rfl)
theorem Ws (S:ShP):EV S=(NA S.hd S.zeros S.rows.length&&AT (DZ S.hd.inter (BI S.hd.fmt)) 0 S.rows):=by
 unfold EV NA;rw[show decide (0<=S.zeros/\S.zeros<=262144)=(decide (0<=S.zeros)&&decide (S.zeros<=262144)) by rw[I6];simp,
  show decide ((S.rows.length:Int)=BJ S.hd.fmt)=((S.rows.length:Int)==BJ S.hd.fmt) by rw[I6];simp]
 simp only[Lo]
theorem Wb {S:ShP}(h:EV S=true):S.rows.length<=1000/\∃N:Nat,(0<S.rows.length->BI S.hd.fmt=(N:Int))/\(∀r∈S.rows,r.cels.length=N)/\∀c∈C2 S,BL S.hd.inter c=true:=by
 rw[Ws,Al] at h;obtain⟨h1,h2⟩:=h;have a:∀r∈S.rows,(r.cels.length:Int)=BI S.hd.fmt/\r.cels.all (BL S.hd.inter)=true:=fun r hr=>by
  obtain⟨i,hi,rfl⟩:=Lk.1 hr;have h3:=Pn.1 h2 i hi;unfold DZ at h3;simp only[Al,Fi] at h3;exact⟨h3.1,h3.2.2⟩
 refine⟨?_,(BI S.hd.fmt).toNat,fun b=>?_,fun r hr=>?_,fun c hc=>?_⟩
 ·unfold NA at h1;simp only[Al,Bm] at h1;have h4:=h1.2.2.2;rcases K1 S.hd.fmt with e|e|e|e|e|e|⟨_,e⟩
  case _|_|_|_|_|_=>
   rw[e] at h4;have d:(S.rows.length:Int)<=1000:=by rw[h4];decide +kernel
   omega
  unfold BJ at h4;rw[e] at h4;have d:(S.rows.length:Int)=0:=h4;omega
 ·have:=(a _ (Bn b)).1;omega
 ·have:=(a r hr).1;omega
 ·obtain⟨r,hr,hc⟩:=Ob.1 hc;exact Bu.1 (a r hr).2 c hc
theorem pU {S:ShP}(h:EV S=true){N:Nat}(a:∀r∈S.rows,r.cels.length=N):AT (CP S.hd.fmt) 0 (C2 S)=AT (fun i (r:RowP)=>AT (IG S.hd.fmt) (i*N) r.cels) 0 S.rows:=by
 obtain⟨-,-,-,-,h1⟩:=Wb h;rw[<-Wm 0 S.rows a,Ch];refine YG 0 _ fun n c hc=>?_;unfold CP IG;rw[kV (h1 c hc)]
theorem RL {α:Type}[Inhabited α]{f:Nat->α->Bool}{l:List α}{n:Nat}(hn:l.length=n):((∀i,i<n->f i (l[i]!)=true)->AT f 0 l=true)/\∀i,i<n->f i (l[i]!)=false->AT f 0 l=false:=by
 subst hn;refine⟨fun h=>Pn.2 fun j hj=>?_,fun i hi h=>?_⟩
 ·have:=h j hj;rw[Oq l j hj] at this;rwa [Ar]
 ·rw[Oq l i hi] at h;exact Ud hi h
theorem Va {f : FuncId} {fn : Func} {c : Code} (hf : prog.funcs[f]? = some fn) (hname : (fn.name == "runtime.NumGoroutine") = false) (hb : fn.body = some c) (args : Array Value) (w : World) : (callFunc f args).run prog w = .ok (.enter f args) w := by
 have h1 : fn.name ≠ "runtime.NumGoroutine" := by simpa using hname
 simp[callFunc,hf,h1,hb]
theorem pL:∀args x,(callFunc 46 args).run prog x=.ok (.enter 46 args) x:=Va func46 (by kernel_rfl) rfl
theorem qM:∀args x,(callFunc 47 args).run prog x=.ok (.enter 47 args) x:=Va func47 (by kernel_rfl) rfl
theorem vX:∃Y:Array A0,Y.size=8/\∀w,(zeroValue 78).run prog w=.ok (.agg Y) w:=⟨#[.int .i64 0,.int .i64 0,.int .i64 0,.bool false,.int .i64 0,.slice none 0 0,.slice none 0 0,.int .i64 0],rfl,MC (by kernel_rfl)⟩
set_option maxRecDepth 100000 in
theorem Y03 (S:ShP)(p b:Option Addr)(ca cb:Nat)(w:A5)(hl:S.hd.supp.length<=maxLen)(hn:S.rows.length<=4611686018427387904)(hs:CA w p S.hd.supp)(hr:H0 w b S.rows)(hc:∀c∈C2 S,∀k,k<6->(c.ev k).length<=1048576)(hR:Qk w S.hd.inter):
  A9 prog 20 #[.agg (Bx S.hd (.slice p S.hd.supp.length ca) (.slice b S.rows.length cb) S.zeros).toArray] w fun e w'=>e=.returned (.int .i64 (C4 S))/\Below w.heap.size w w':=by
 have n1:∀i (h:i<S.rows.length),∀c∈S.rows[i].cels,c∈C2 S:=fun i h c hc=>Ob.2 ⟨_,Bn h,hc⟩;obtain⟨zs,g⟩:=Ah (Bx S.hd (.slice p S.hd.supp.length ca) (.slice b S.rows.length cb) S.zeros);have z6:zs[6]? =some (.slice b S.rows.length cb):=by rw[<-g];rfl
 have z:zs.toArray.all (·.oneCell')=true:=by rw[<-g];exact RA ..
 have j:(prog.info? 78).map (·.size)=some zs.toArray.size:=by rw[show zs.toArray.size=8 by rw[<-g];rfl];kernel_rfl
 have W:(prog.info? 39).map (·.size)=some zs.toArray.size:=by rw[show zs.toArray.size=8 by rw[<-g];rfl];kernel_rfl
 obtain⟨Y,X,al⟩:=vX;have Z:Y.size=zs.toArray.size:=by rw[X,<-g];rfl
 have am:∀(fn:Fn) (first cap:Array A0) (w:A5),(Instr.makeFunc fn first cap).run prog w=.ok (.func fn first cap) w:=fun _ _ _ _=>rfl;obtain⟨B,wA,d,T,s,A,C,aa,D,F,G⟩:=NC w (.cells zs.toArray 39 (0,0)) (.cells zs.toArray 78 (0,0));have H:wA.heap[B]? =some (.cells zs.toArray 39 (0,0)):=by rw[<-s,<-T];exact heap_alloc_new w _
 have t:∀x,Below (B+2) d x->Below w.heap.size w x:=fun x a=>by rw[T];exact G.trans (a.mono (by omega))
 have U:Hid (∀x,Below (B+2) d x->x.heap[B+1]? =some (.cells zs.toArray 78 (0,0))/\x.cell? ⟨B,6,none⟩=some (.slice b S.rows.length cb)/\Below w.heap.size w x):=Dp fun x a=>
  ⟨(a.block (B+1) (by omega)).trans F,AA ((a.block B (by omega)).trans D) z6,t x a⟩
 have V:∀(x y:A5),Below (B+2) d x->Below x.heap.size x y->Below (B+2) d y:=fun x y a I=>a.trans (I.mono (by have:=a.size;omega));have an:=Dp (fun(x:A5) (a:Below (B+2) d x)=>(by
  rw[<-g];exact(rV S.hd p b ca cb S.rows.length S.zeros x hl (hs.below (t x a))).mono fun e y h=>⟨h.1,V x y a h.2⟩:A9 prog 44 #[.agg zs.toArray] x fun e y=>e=.returned (.bool (NA S.hd S.zeros S.rows.length))/\Below (B+2) d y))
 have ao:=Dp (fun(x:A5) (a:Below (B+2) d x)=>((VA 46 zs.toArray S.rows.length (fun i=>DZ S.hd.inter (BI S.hd.fmt) i (S.rows[i]!)) (AT (DZ S.hd.inter (BI S.hd.fmt)) 0 S.rows) x hn pL
  (fun i hi _ y I=>by
   have m:=(t x a).trans (I.mono (t x a).size);rw[Oq S.rows i hi,<-g];exact tO S p b ca cb i y hi (by unfold maxLen;omega) (hr.below m) (fun c h k hk=>hc c (n1 i hi c h) k hk) (hR.below m))
  (RL rfl).1 (RL rfl).2).mono fun e y h=>⟨h.1,V x y a h.2⟩:A9 prog 45 #[.int .i64 (S.rows.length:Int),.func (.func 46) #[.agg zs.toArray] #[]] x fun e y=>e=.returned (.bool (AT (DZ S.hd.inter (BI S.hd.fmt)) 0 S.rows))/\Below (B+2) d y))
 have ap:=Dp (fun(hT:EV S=true) (x:A5) (a:Below (B+2) d x)=>(by
  obtain⟨hm,N,hN,J,-⟩:=Wb hT;rw[pU hT J];exact(VA 47 zs.toArray S.rows.length (fun i=>AT (IG S.hd.fmt) (i*N) (S.rows[i]!).cels) (AT (fun i (r:RowP)=>AT (IG S.hd.fmt) (i*N) r.cels) 0 S.rows) x hn qM
   (fun i hi _ y I=>by
    have m:=(t x a).trans (I.mono (t x a).size);rw[Oq S.rows i hi,<-g];exact dF S p b ca cb i N y hi hm (hN (by omega)) (J _ (Bn hi)) (hr.below m))
   (RL (f:=fun i (r:RowP)=>AT (IG S.hd.fmt) (i*N) r.cels) (l:=S.rows) rfl).1 (RL (f:=fun i (r:RowP)=>AT (IG S.hd.fmt) (i*N) r.cels) (l:=S.rows) rfl).2).mono fun e y h=>⟨h.1,V x y a h.2⟩:A9 prog 45 #[.int .i64 (S.rows.length:Int),.func (.func 47) #[.agg zs.toArray] #[]] x fun e y=>e=.returned (.bool (AT (CP S.hd.fmt) 0 (C2 S)))/\Below (B+2) d y))
 have ai:=Dp (Ws S);have ab:=Dp (fun(h:EV S=false)=>P8 h);have aj:=Dp (fun h (h1:AT (CP S.hd.fmt) 0 (C2 S)=false)=>ZE h h1);have ak:=Dp (fun h (h1:AT (CP S.hd.fmt) 0 (C2 S)=true)=>Tl h h1);have K:Below (B+2) d d:=Dq _ _;have ac:=Dp s;have ad:=Dp A;have L:=Dp T;have ae:=Dp C;rw[g];obtain⟨E,hE⟩:=Ah (C4 S)
 rw[hE] at ab aj ak ⊢;clear hE;clear s A T C aa D F G t V z6 g n1 hs hr hc hR hl;generalize S.rows.length=n at *;generalize AT (CP S.hd.fmt) 0 (C2 S)=vm at *;generalize AT (DZ S.hd.inter (BI S.hd.fmt)) 0 S.rows=rm at *;generalize NA S.hd S.zeros n=pm at *;generalize EV S=tr at *
 go_enter func20,ntmps20
 have M:=(U.out _ K).1
 go_wp2_with (first|(rw[ac.out,L.out];with_reducible refine N5 rfl 39 _ rfl B rfl 39 zs.toArray (0,0) _ H Oa rfl W ?_)|(with_reducible refine DA rfl 78 _ _ rfl zs.toArray Y 78 rfl rfl j Z z ?_;rw[ad.out,ae.out])|(with_reducible refine N5 rfl 78 _ rfl (B+1) rfl 78 zs.toArray (0,0) _ M Od rfl j ?_))
 refine(an.out _ K).mono ?_;rintro e w1 ⟨rfl,O⟩;obtain⟨P,af,u⟩:=U.out w1 O;clear M H;cases pm with
 |false=>
  have v:=Dp (ab.out (by rw[ai.out];rfl))
  go_wp2
  go_ret
  exact⟨by rw[v.out];rfl,by first|exact u|(rw[<-L.out];exact u)⟩
 |true=>
  have o:=Dp (show tr=rm from ai.out)
  go_wp2_with (with_reducible refine NI (by kernel_rfl) 78 _ rfl (B+1) rfl 78 zs.toArray (0,0) _ P Od rfl j ?_)
  refine(ao.out _ O).mono ?_;rintro e w2 ⟨rfl,Q⟩;obtain⟨ag,aq,R⟩:=U.out w2 Q;clear P af u;cases rm with
  |false=>
   have v:=Dp (ab.out o.out)
   go_wp2
   go_ret
   exact⟨by rw[v.out];rfl,by first|exact R|(rw[<-L.out];exact R)⟩
  |true=>
   have c3:=ap.out o.out w2 Q
   go_wp2_with (with_reducible refine N5 rfl 78 _ rfl (B+1) rfl 78 zs.toArray (0,0) _ ag Od rfl j ?_)
   refine c3.mono ?_;rintro e w3 ⟨rfl,ah⟩;have q:=(U.out w3 ah).2.2;cases vm with
   |false=>
    have v:=Dp (aj.out o.out rfl)
    go_wp2
    go_ret
    exact⟨by rw[v.out];rfl,by first|exact q|(rw[<-L.out];exact q)⟩
   |true=>
    have v:=Dp (ak.out o.out rfl)
    go_wp2
    go_ret
    exact⟨by rw[v.out];rfl,by first|exact q|(rw[<-L.out];exact q)⟩
end Go.Proofs.YtjjmalchelniiaaGreatDoor