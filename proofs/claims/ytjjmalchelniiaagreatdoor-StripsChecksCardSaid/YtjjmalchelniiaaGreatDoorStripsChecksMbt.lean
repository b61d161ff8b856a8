/- StripsChecks, 46. No condition. -/
import Derived.Test.YtjjmalchelniiaaGreatDoorStripsChecksMa
import Derived.Test.YtjjmalchelniiaaGreatDoorStripsChecksMq
import Derived.Test.YtjjmalchelniiaaGreatDoorStripsChecksMr
import Derived.Test.YtjjmalchelniiaaGreatDoorStripsChecksMz
import Derived.Test.YtjjmalchelniiaaGreatDoorStripsChecksMbr
open Go.Proofs.Tryz
open Go renaming World->A5,Calls->A9,Value->A0
set_option maxHeartbeats 4000000
namespace Go.Proofs.YtjjmalchelniiaaGreatDoor
open Go.RowKit Go.Lib
abbrev O6:=@AllReadyH.cons
abbrev O7:=@AllReadyH.nil
abbrev O8:=@wpAnyH_ready
abbrev O9:=@wpAnyH_done
abbrev Oa:=@wp_region_held_drew
abbrev Ob:=@wp_store_row
abbrev Oc:=@Nat.lt_succ_self
abbrev Od:=@getElem!_pos
theorem eX (H:Bool)(i:Nat)(I Q:Int):(if H then decide (i≠0/\0<=I/\I<=3/\1<=Q/\Q<=31) else decide (I=0/\Q=0))=KJ (i:Int) H I Q:=by
 unfold KJ;cases H
 ·rfl
 ·rw[Bc rfl,Bc rfl];simp
def Ph (w:A5)(inter:Bool):Prop:=∀(c:Cel) (p:Nat->Option Addr) (n k:Nat->Nat) (x:A5),Below w.heap.size w x->FP x c p n->
 A9 prog 82 #[.bool inter,.agg (AF c fun i=>.slice (p i) (n i) (k i)).toArray] x fun e y=>e=.returned (.bool (BE inter c))/\Below x.heap.size x y
theorem Ph.below {w x:A5}{inter:Bool}(h:Ph w inter)(a:Below w.heap.size w x):Ph x inter:=
 fun c p n k y b hc=>h c p n k y (a.trans (b.mono a.size)) hc
set_option maxRecDepth 100000 in
theorem rX (S:ShP)(p b:Option Addr)(ca cb i:Nat)(w:A5)(hi:i<S.rows.length)(hn:S.rows.length<=maxLen)(hr:EC w b S.rows)(hc:∀c∈S.rows[i].cels,∀k,k<6->(c.ev k).length<=1048576)(hR:Ph w S.hd.inter):
  A9 prog 46 #[.agg (AQ S.hd (.slice p S.hd.supp.length ca) (.slice b S.rows.length cb) S.zeros).toArray,.int .i64 (i:Int)] w fun e w'=>e=.returned (.bool (DJ S.hd.inter (BA S.hd.fmt) i S.rows[i]))/\Below w.heap.size w w':=by
 unfold maxLen at hn;obtain⟨Z,o1,rfl,bk,aa⟩:=JM hr (by omega);obtain⟨r,cap,hq,E,o,J⟩:=aa i hi;clear aa hr;have cE:=fun x=>X6 S.hd (.slice p S.hd.supp.length ca) (.slice (some ⟨Z,o1,none⟩) S.rows.length cb) S.zeros x;generalize S.rows[i]=R at hc E o J ⊢;generalize S.rows.length=n at hi hn cE ⊢;obtain⟨H,I,Q,m⟩:=R;dsimp only at *
 obtain⟨zs,hZ⟩:=Ai (AQ S.hd (.slice p S.hd.supp.length ca) (.slice (some ⟨Z,o1,none⟩) n cb) S.zeros);have z6:zs[6]? =some (.slice (some ⟨Z,o1,none⟩) n cb):=by rw[<-hZ];rfl
 have z3:zs[3]? =some (.bool S.hd.inter):=by rw[<-hZ];rfl
 have ay:(prog.info? 78).map (·.size)=some zs.toArray.size:=by rw[show zs.toArray.size=8 by rw[<-hZ];rfl];kernel_rfl
 rw[hZ] at cE ⊢;clear hZ;have bl:=NI S.hd.fmt;generalize BA S.hd.fmt=N at *;generalize S.hd.inter=inter at *;obtain⟨rs,l⟩:=Ai ([Value.bool H,.int .i64 I,.int .i64 Q,.slice r m.length cap]);have r3:rs[3]? =some (.slice r m.length cap):=by rw[<-l];rfl
 have rl:rs.length=4:=by rw[<-l];rfl
 have ro:rs.toArray.all (·.oneCell')=true:=by rw[<-l];simp[Value.oneCell']
 have cH:=fun x=>tO (i:Int) (by omega) H I Q (.slice r m.length cap) x;rw[show (#[Value.bool H,.int .i64 I,.int .i64 Q,.slice r m.length cap]:Array A0)=rs.toArray by rw[<-l]] at cH;have q:∀x,Below w.heap.size w x->x.rangeAt Z (o1+i*4) rs:=fun x a k v d=>by
  obtain⟨a0,a1,a2,a3⟩:=J x a;rw[<-l] at d
  match k,d with
  |0,d=>injection d with d;subst d;exact a0
  |1,d=>injection d with d;subst d;exact a1
  |2,d=>injection d with d;subst d;exact a2
  |3,d=>injection d with d;subst d;exact a3
 clear J l;obtain⟨bf,ab,bm⟩:=Ps;obtain⟨Y,az,bn⟩:=MK;obtain⟨B,wA,g,hB,L,ac,ad,ae,M,O,af⟩:=JF w (.cells zs.toArray 78 (0,0)) (.cells rs.toArray 46 (0,0));have ag:Below w.heap.size w wA:=by rw[<-L];exact(Dm _ w).alloc (Ba _) _
 have ah:=q wA ag;have V:Hid (∀x,Below (B+2) g x->x.cell? ⟨B,3,none⟩=some (.bool inter)/\x.cell? ⟨B+1,3,none⟩=some (.slice r m.length cap)/\Below w.heap.size w x):=Dl fun x a=>by
  have h1:=(a.block B (by omega)).trans M;have h2:=(a.block (B+1) (by omega)).trans O;exact⟨A2 h1 z3,A2 h2 r3,by rw[hB];exact af.trans (a.mono (by omega))⟩
 have bo:=Dl (fun(x:A5) (a:Below (B+2) g x)=>(a.block B (by omega)).trans M);have bg:=Dl (fun(x:A5) (a:Below (B+2) g x)=>(a.block (B+1) (by omega)).trans O);have K:∀(x y:A5),Below (B+2) g x->Below x.heap.size x y->Below (B+2) g y:=fun x y a hy=>a.trans (hy.mono (by have:=a.size;omega))
 have bh:=Dl (fun(x:A5) (a:Below (B+2) g x)=>((cH x).mono fun e y h=>⟨h.1,K x y a h.2⟩:A9 prog 80 #[.int .i64 (i:Int),.agg rs.toArray] x fun e y=>e=.returned (.bool (KJ (i:Int) H I Q))/\Below (B+2) g y))
 have bp:=Dl (fun(x:A5) (a:Below (B+2) g x)=>((cE x).mono fun e y h=>⟨h.1,K x y a h.2⟩:A9 prog 81 #[.agg zs.toArray] x fun e y=>e=.returned (.int .i64 N)/\Below (B+2) g y));have P:(prog.info? 46).map (·.size)=some rs.toArray.size:=by rw[show rs.toArray.size=4 from rl];kernel_rfl
 have a4:bf.size=rs.toArray.size:=by rw[ab];exact rl.symm
 have t1:decide ((i:Int)<(n:Int))=true:=by simp;omega
 have ai:Below (B+2) g g:=Dm _ _;have a5:=Dl L;have a6:=Dl ac;have aj:=Dl hB;have bi:=Dl ae;have a7:=Dl ad;have bw:=Dl E;have ak:=Dl o;have a8:=Dl hR;have bq:=Dl K;unfold DJ;dsimp only;rw[eX];generalize KJ (i:Int) H I Q=G at *;clear L ac hB ad ae M O af ag z3 r3 q cE cH o hR E K
 go_enter func46,ntmps46
 go_wp2_with (first|(rw[a5.out,aj.out];with_reducible refine Qg rfl _ rfl Z (o1+i*4) rfl rs ah rl ?_)|(with_reducible refine BZ rfl 46 _ _ rfl rs.toArray bf 46 rfl rfl P a4 ro ?_;rw[a6.out,a7.out]))
 cases G with
 |false=>
  refine BU (S:=fun x=>Below (B+2) g x) 12 (by kernel_rfl) (by kernel_rfl) ai.drew ?_;simp only[Dp,Bk,Gs,Gt];refine AJ ?_;simp only[A1];refine FJ 46 _ (B+1) 46 rs.toArray (0,0) _ (by kernel_rfl) rfl rfl (fun x a=>bg.out x a) J3 rfl P ?_;simp only[A1]
  refine AY (by kernel_rfl) bh.out (fun _=>by kernel_rfl) ?_;simp only[A1]
  iterate 2 (refine AJ ?_;simp only[A1])
  iterate 6 (refine DW (by kernel_rfl) ?_;simp only[A1])
  refine AJ ?_;simp only[A1];refine BS fun x a=>?_;have W:=(V.out x a).2.2
  go_wp2
  go_ret
  exact⟨AB (by rw[Hb,Gv]),by first|exact W|(rw[<-aj.out];exact W)⟩
 |true=>
 refine BU (S:=fun x=>Below (B+2) g x) 12 (by kernel_rfl) (by kernel_rfl) ai.drew ?_;simp only[Dp,Bk,Gs,Gt];refine AJ ?_;simp only[A1];refine FJ 46 _ (B+1) 46 rs.toArray (0,0) _ (by kernel_rfl) rfl rfl (fun x a=>bg.out x a) J3 rfl P ?_;simp only[A1]
 refine AY (by kernel_rfl) bh.out (fun _=>by kernel_rfl) ?_;simp only[A1]
 iterate 3 (refine AJ ?_;simp only[A1])
 refine AR 44 _ ⟨(B+1),3,none⟩ (.slice r m.length cap) (by kernel_rfl) rfl rfl (fun x a=>by have c0:=(V.out x a).2.1;go_simp) ?_;simp only[A1];refine AJ ?_;simp only[A1];refine FJ 78 _ B 78 zs.toArray (0,0) _ (by kernel_rfl) rfl rfl (fun x a=>bo.out x a) Nx rfl ay ?_;simp only[A1];refine AY (by kernel_rfl) bp.out (fun _=>by kernel_rfl) ?_;simp only[A1]
 iterate 2 (refine AJ ?_;simp only[A1])
 refine BS fun x a=>?_;obtain⟨-,k3,W⟩:=V.out x a;by_cases X:(m.length:Int)=N
 case neg=>
  have t0:((m.length:Int) != N)=true:=by rw[Ff];exact X
  have F:=Dl (Gp X);clear X
  go_wp2
  go_ret
  exact⟨AB (by rw[F.out];rfl),by first|exact W|(rw[<-aj.out];exact W)⟩
 have t0:((m.length:Int) != N)=false:=by rw[X];simp
 have F:=Dl (Gq X);have br:m.length<=10000:=by omega
 clear X;rw[t0]
 go_wp2
 clear k3 t0
 go_loopw [28] (fun z wr=>∃j:Nat,z=.int .i64 (j:Int)/\j<=m.length/\Hid ((m.take j).all (BE inter)=true)/\Below (B+2) g wr) (fun z _=>m.length-(intOf z).toNat)
 case atStart=>exact⟨0,rfl,Dn _,Dl rfl,a⟩
 case round=>
  clear a W;obtain⟨j,rfl,hj,ha,hb⟩:=hrel;obtain⟨-,-,T⟩:=V.out wr hb;by_cases u:j<m.length
  ·have t1:decide ((j:Int)<(m.length:Int))=true:=by simp;omega
   obtain⟨b2,o2,rfl,bs,al⟩:=BO.each ak.out (by omega);obtain⟨vs,hV,am⟩:=al j u;have s:=hV.shape.1;have an:=OA hV;obtain⟨p3,ao,ap,-,aq⟩:=hV;have q:wr.rangeAt b2 (o2+j*18) vs:=fun k v d=>am wr T k v d;have a9:=Dl (fun h=>Y6 u ha.out (f:=BE inter) h);have ba:=Dl (fun h=>Y5 (f:=BE inter) u h)
   obtain⟨wC,t⟩:=Ai (wr.alloc (.cells vs.toArray 77 (0,0)));obtain⟨C,hC⟩:=Ai wr.heap.size;have ar:wC.heap[C]? =some (.cells vs.toArray 77 (0,0)):=by rw[<-t,<-hC];exact heap_alloc_new wr _
   have A:Below (B+2) g wC:=by rw[<-t];exact hb.alloc (by have:=hb.size;have:=bi.out;omega) _
   obtain⟨k3,-,U⟩:=V.out wC A;have au:wC.heap.size=C+1:=by rw[<-t,<-hC];simp
   have av:(prog.info? 77).map (·.size)=some vs.toArray.size:=by rw[show vs.toArray.size=18 from s];kernel_rfl
   have bb:Y.size=vs.toArray.size:=by rw[az];exact s.symm
   have bj:=a8.out m[j] p3 (fun i=>(m[j].ev i).length) ao wC U (fun i hi=>⟨rfl,hc _ (Bl u) i hi,(aq i hi).2.below U⟩);rw[<-ap] at bj;have bc:=Dl t;have bt:=Dl au;have bu:=Dl hC;clear ap am al ha t au aq hC;generalize BE inter m[j]=y at *
   go_wp2_with (first|(with_reducible refine Pu rfl _ rfl b2 (o2+j*18) rfl vs q s ?_)|(with_reducible refine BZ rfl 77 _ _ rfl vs.toArray Y 77 rfl rfl av bb an ?_;rw[bc.out])|(rw[bu.out];with_reducible refine N5 rfl 77 _ rfl C rfl 77 vs.toArray (0,0) _ ar J2 rfl av ?_))
   refine bj.mono ?_;rintro e w2 ⟨rfl,D⟩;have aw:Below (B+2) g w2:=A.trans (D.mono (by have:=A.size;have:=bi.out;omega));have ax:=(V.out w2 aw).2.2;clear D ar q A k3 U;cases y with
   |true=>
    have bd:=Dl (a9.out rfl);clear a9 ba
    go_wp2
    go_roundw
    case rel=>exact⟨j+1,by go_num,by omega,bd,aw⟩
    case measure=>simp[intOf];omega
   |false=>
    have bd:=Dl (ba.out rfl);clear a9 ba
    go_wp2
    go_ret
    exact⟨AB (by rw[F.out,bd.out];rfl),by first|exact ax|(rw[<-aj.out];exact ax)⟩
  ·obtain rfl:m.length=j:=by omega
   have t1:decide ((m.length:Int)<(m.length:Int))=false:=by simp
   have bv:=Dl (show m.all (BE inter)=true by have:=ha.out;rwa [Iy] at this)
   go_wp2
   go_ret
   exact⟨AB (by rw[F.out,bv.out];rfl),by first|exact T|(rw[<-aj.out];exact T)⟩
theorem Xo {w x:A5}{b N:Nat}(h:w.grownBy x (some b))(a:N<=b)(c:N<=w.heap.size):Below N w x:=
 ⟨h.os,h.tape,h.output,h.size,fun k d=>h.block k (by omega) (fun e=>by injection e with e;omega)⟩
def MN (h:Shd)(z:Int)(n:Nat):Bool:=Ec h&&(decide (0<=z)&&(decide (z<=262144)&&((n:Int)==BC h.fmt)))
set_option maxRecDepth 100000 in
theorem xJ (h:Shd)(p b:Option Addr)(ca cb n:Nat)(z:Int)(w:A5)(hl:h.supp.length<=maxLen)(hs:BH w p h.supp):
  A9 prog 44 #[.agg (AQ h (.slice p h.supp.length ca) (.slice b n cb) z).toArray] w fun e U=>e=.returned (.bool (MN h z n))/\Below w.heap.size w U:=by
 have f:=fun x a (d:Below w.heap.size w x) (hm:Ec h=false)=>pA a h p ca (.slice b n cb) z hl x (hs.below d) hm
 have l:=fun(x:A5) (d:Below w.heap.size w x) (hm:Ec h=true)=>Y1 (x.alloc GN) (x.heap.size+1) x.heap.size [] h p ca (.slice b n cb) z (fun y V=>hs.below (d.trans ((((Dm _ x).alloc (Ba _) GN).trans (Xo V (Ba _) (by simp))).mono d.size))) hm (AN.fresh rfl (Oc _)) (by simp) (by simp)
 obtain⟨zs,r⟩:=Ai (AQ h (.slice p h.supp.length ca) (.slice b n cb) z);have z2:zs[2]? =some (.int .i64 h.fmt):=by rw[<-r];rfl
 have W:zs[6]? =some (.slice b n cb):=by rw[<-r];rfl
 have t:zs[7]? =some (.int .i64 z):=by rw[<-r];rfl
 have I:(prog.info? 78).map (·.size)=some zs.toArray.size:=by rw[show zs.toArray.size=8 by rw[<-r];rfl];kernel_rfl
 simp only[r] at f l ⊢;obtain⟨B,m⟩:=Ai w.heap.size;obtain⟨s,g⟩:=Ai (w.alloc (.cells zs.toArray 78 (0,0)));have u:s.heap[B]? =some (.cells zs.toArray 78 (0,0)):=by rw[<-g,<-m];exact heap_alloc_new w _
 have J:Below B w s:=by rw[<-m,<-g];exact(Dm _ w).alloc (Ba _) _
 have X:s.heap.size=B+1:=by rw[<-g,<-m];simp
 obtain⟨ev,j⟩:∃ev:Int,(if Ec h=true then 0 else 12)=ev:=⟨_,rfl⟩;have A:Hid (∀x,(Below B w x/\x.heap[B]? =some (.cells zs.toArray 78 (0,0)))->A9 prog 71 #[.pointer (some ⟨x.heap.size,0,none⟩),.agg zs.toArray] (x.alloc GN) fun e y=>e=.returned (.int .i64 ev)/\Below B w y/\y.heap[B]? =some (.cells zs.toArray 78 (0,0))):=Dl (by
  intro x d;have L:B<x.heap.size:=(An.1 d.2).1;have k:∀y,Below x.heap.size x y->Below B w y/\y.heap[B]? =some (.cells zs.toArray 78 (0,0)):=fun y h3=>⟨d.1.trans (h3.mono (by omega)),(h3.block B L).trans d.2⟩;have o:Below x.heap.size x (x.alloc GN):=(Dm _ x).alloc (Ba _) GN;cases hm:Ec h with
  |false=>
   refine(f (x.alloc GN) ⟨x.heap.size,0,none⟩ (by rw[m];exact d.1.trans (o.mono (by omega))) hm).mono ?_;rintro e y ⟨rfl,h2⟩;exact⟨by rw[<-j,hm];rfl,k y (o.trans (h2.mono (by simp)))⟩
  |true=>
   refine(l x (by rw[m];exact d.1) hm).mono ?_;rintro e y ⟨rfl,_,Y⟩;exact⟨by rw[<-j,hm];rfl,k y (o.trans (Xo Y (Ba _) (by simp)))⟩)
 have C:Hid (∀b,Ec h=b->(ev==0)=b):=Dl (by intro b Z;rw[<-j,Z];cases b <;> rfl);have c2:=fun w=>PN h.fmt w;have aa:=Dl g;have D:=Dl m;have M:Below B w s.drew/\s.drew.heap[B]? =some (.cells zs.toArray 78 (0,0)):=⟨J.drew,u⟩;clear r g m f l j u hs;unfold MN;generalize Ec h=sm at *;generalize h.fmt=E at *;generalize BG E=ac at *
 obtain⟨ab,q⟩:=Ai (BC E);rw[q];simp only[q] at c2;clear q;have F:=C.out sm rfl;clear C;obtain⟨d2,h2⟩:=Ai (decide (0<=z));obtain⟨d3,h3⟩:=Ai (decide (z<=262144));rw[h2,h3];obtain⟨d4,h4⟩:=Ai (((n:Int)==ab));rw[h4];have N:sm=false\/(sm=true/\d2=false)\/(sm=true/\d2=true/\d3=false)\/(sm=true/\d2=true/\d3=true):=by
  clear F h2 h3 h4;cases sm <;> cases d2 <;> cases d3 <;> simp
 go_enter func44,ntmps44
 go_wp2_with fail
 refine(c2 _).mono ?_;rintro e w1 ⟨rfl,rfl⟩
 go_wp2
 rw[aa.out,D.out];refine Oa (S:=fun x=>Below B w x/\x.heap[B]? =some (.cells zs.toArray 78 (0,0))) (by kernel_rfl) M (fun c=>?_)
 refine BQ 1 (some 12) (v:=.agg zs.toArray) rfl rfl (by kernel_rfl) (by kernel_rfl) (by kernel_rfl) (fun _ _ _ h=>h) c (Or.inl ⟨by kernel_rfl,fun x d=>FU (ty:=78) (x:=.tmp 1) (ad:=⟨B,0,none⟩) (by kernel_rfl) (by kernel_rfl) (Au x (B) _ _ zs.toArray (0,0) _ (d.2) Nx rfl I)⟩) ?_
 try simp only[A1]
 refine O8 (rs:=[0]) (by kernel_rfl) (by simp) ?_;refine O6 rfl (fun K G=>?_) O7
 go_simp
 go_wp2_with fail
 obtain⟨T,O⟩:=Ai s.drew;rw[O] at c ⊢;have P:B<T.heap.size:=(An.1 c.2).1;have hX:=c;refine(Qf _).mono ?_;rintro e w2 ⟨rfl,rfl⟩;refine G.out _ _ (⟨c.1.alloc (Nat.le_of_lt P) _,CH c.2⟩) (fun i=>?_);clear G K c;have c:=i;clear i
 try simp only[A1]
 refine O8 (rs:=[2]) (by kernel_rfl) (by simp) ?_;refine O6 rfl (fun K G=>?_) O7
 go_simp
 go_wp2_with fail
 refine(A.out T hX).mono ?_;rintro e w3 ⟨rfl,Q,R⟩;refine G.out _ _ (⟨Q,R⟩) (fun i=>?_);clear G K c;have c:=i;clear i
 try simp only[A1]
 rcases N with rfl|⟨rfl,rfl⟩|⟨rfl,rfl,rfl⟩|⟨rfl,rfl,rfl⟩
 ·refine BQ 3 (some 14) (v:=?_) rfl rfl (by kernel_rfl) (by kernel_rfl) (by kernel_rfl) (fun _ _ _ h=>h) c (Or.inl ⟨by kernel_rfl,?_⟩) ?_
  rotate_left
  ·(intro x _;go_simp;try with_reducible rfl)
  rotate_right
  try simp only[A1]
  refine AL 4 (some 15) c ?_
  try simp only[A1]
  refine BQ 5 (some 16) (v:=undef) rfl rfl (by kernel_rfl) (by kernel_rfl) (by kernel_rfl) (fun _ _ _ h=>h) c (Or.inr ⟨by kernel_rfl,rfl⟩) ?_
  try simp only[A1]
  refine BQ 6 (some 17) (v:=undef) rfl rfl (by kernel_rfl) (by kernel_rfl) (by kernel_rfl) (fun _ _ _ h=>h) c (Or.inr ⟨by kernel_rfl,rfl⟩) ?_
  try simp only[A1]
  refine BQ 7 (some 18) (v:=undef) rfl rfl (by kernel_rfl) (by kernel_rfl) (by kernel_rfl) (fun _ _ _ h=>h) c (Or.inr ⟨by kernel_rfl,rfl⟩) ?_
  try simp only[A1]
  refine AL 8 (some 19) c ?_
  try simp only[A1]
  refine AL 9 (some 20) c ?_
  try simp only[A1]
  refine BQ 10 (some 21) (v:=undef) rfl rfl (by kernel_rfl) (by kernel_rfl) (by kernel_rfl) (fun _ _ _ h=>h) c (Or.inr ⟨by kernel_rfl,rfl⟩) ?_
  try simp only[A1]
  refine BQ 11 (some 22) (v:=undef) rfl rfl (by kernel_rfl) (by kernel_rfl) (by kernel_rfl) (fun _ _ _ h=>h) c (Or.inr ⟨by kernel_rfl,rfl⟩) ?_
  try simp only[A1]
  refine BQ 12 (some 23) (v:=undef) rfl rfl (by kernel_rfl) (by kernel_rfl) (by kernel_rfl) (fun _ _ _ h=>h) c (Or.inr ⟨by kernel_rfl,rfl⟩) ?_
  try simp only[A1]
  refine AL 13 (some 24) c ?_
  try simp only[A1]
  refine AL 14 (some 25) c ?_
  try simp only[A1]
  refine BQ 15 (some 26) (v:=undef) rfl rfl (by kernel_rfl) (by kernel_rfl) (by kernel_rfl) (fun _ _ _ h=>h) c (Or.inr ⟨by kernel_rfl,rfl⟩) ?_
  try simp only[A1]
  refine BQ 16 (some 27) (v:=undef) rfl rfl (by kernel_rfl) (by kernel_rfl) (by kernel_rfl) (fun _ _ _ h=>h) c (Or.inr ⟨by kernel_rfl,rfl⟩) ?_
  try simp only[A1]
  refine BQ 17 (some 28) (v:=undef) rfl rfl (by kernel_rfl) (by kernel_rfl) (by kernel_rfl) (fun _ _ _ h=>h) c (Or.inr ⟨by kernel_rfl,rfl⟩) ?_
  try simp only[A1]
  refine BQ 18 (some 29) (v:=undef) rfl rfl (by kernel_rfl) (by kernel_rfl) (by kernel_rfl) (fun _ _ _ h=>h) c (Or.inr ⟨by kernel_rfl,rfl⟩) ?_
  try simp only[A1]
  refine BQ 19 (some 30) (v:=undef) rfl rfl (by kernel_rfl) (by kernel_rfl) (by kernel_rfl) (fun _ _ _ h=>h) c (Or.inr ⟨by kernel_rfl,rfl⟩) ?_
  try simp only[A1]
  refine AL 20 (some 31) c ?_
  try simp only[A1]
  refine AL 21 (some 2) c ?_
  try simp only[A1]
  refine O9 (by kernel_rfl) ?_ _
  go_wp2
  go_ret
  exact⟨AB (by rfl),by rw[D.out];exact c.1⟩
 ·refine BQ 3 (some 14) (v:=?_) rfl rfl (by kernel_rfl) (by kernel_rfl) (by kernel_rfl) (fun _ _ _ h=>h) c (Or.inl ⟨by kernel_rfl,?_⟩) ?_
  rotate_left
  ·(intro x _;go_simp;try with_reducible rfl)
  rotate_right
  try simp only[A1]
  refine AL 4 (some 15) c ?_
  try simp only[A1]
  refine AL 5 (some 16) c ?_
  try simp only[A1]
  refine F5 6 (some 17) (v:=.int .i64 z) rfl rfl c (by kernel_rfl) (fun x d=>by have H:=A2 d.2 t;go_simp) ?_
  try simp only[A1]
  refine AL 7 (some 18) c ?_
  try simp only[A1]
  refine AL 8 (some 19) c ?_
  try simp only[A1]
  refine AL 9 (some 20) c ?_
  try simp only[A1]
  refine BQ 10 (some 21) (v:=undef) rfl rfl (by kernel_rfl) (by kernel_rfl) (by kernel_rfl) (fun _ _ _ h=>h) c (Or.inr ⟨by kernel_rfl,rfl⟩) ?_
  try simp only[A1]
  refine BQ 11 (some 22) (v:=undef) rfl rfl (by kernel_rfl) (by kernel_rfl) (by kernel_rfl) (fun _ _ _ h=>h) c (Or.inr ⟨by kernel_rfl,rfl⟩) ?_
  try simp only[A1]
  refine BQ 12 (some 23) (v:=undef) rfl rfl (by kernel_rfl) (by kernel_rfl) (by kernel_rfl) (fun _ _ _ h=>h) c (Or.inr ⟨by kernel_rfl,rfl⟩) ?_
  try simp only[A1]
  refine AL 13 (some 24) c ?_
  try simp only[A1]
  refine AL 14 (some 25) c ?_
  try simp only[A1]
  refine BQ 15 (some 26) (v:=undef) rfl rfl (by kernel_rfl) (by kernel_rfl) (by kernel_rfl) (fun _ _ _ h=>h) c (Or.inr ⟨by kernel_rfl,rfl⟩) ?_
  try simp only[A1]
  refine BQ 16 (some 27) (v:=undef) rfl rfl (by kernel_rfl) (by kernel_rfl) (by kernel_rfl) (fun _ _ _ h=>h) c (Or.inr ⟨by kernel_rfl,rfl⟩) ?_
  try simp only[A1]
  refine BQ 17 (some 28) (v:=undef) rfl rfl (by kernel_rfl) (by kernel_rfl) (by kernel_rfl) (fun _ _ _ h=>h) c (Or.inr ⟨by kernel_rfl,rfl⟩) ?_
  try simp only[A1]
  refine BQ 18 (some 29) (v:=undef) rfl rfl (by kernel_rfl) (by kernel_rfl) (by kernel_rfl) (fun _ _ _ h=>h) c (Or.inr ⟨by kernel_rfl,rfl⟩) ?_
  try simp only[A1]
  refine BQ 19 (some 30) (v:=undef) rfl rfl (by kernel_rfl) (by kernel_rfl) (by kernel_rfl) (fun _ _ _ h=>h) c (Or.inr ⟨by kernel_rfl,rfl⟩) ?_
  try simp only[A1]
  refine AL 20 (some 31) c ?_
  try simp only[A1]
  refine AL 21 (some 2) c ?_
  try simp only[A1]
  refine O9 (by kernel_rfl) ?_ _
  go_wp2
  go_ret
  exact⟨AB (by rfl),by rw[D.out];exact c.1⟩
 ·refine BQ 3 (some 14) (v:=?_) rfl rfl (by kernel_rfl) (by kernel_rfl) (by kernel_rfl) (fun _ _ _ h=>h) c (Or.inl ⟨by kernel_rfl,?_⟩) ?_
  rotate_left
  ·(intro x _;go_simp;try with_reducible rfl)
  rotate_right
  try simp only[A1]
  refine AL 4 (some 15) c ?_
  try simp only[A1]
  refine AL 5 (some 16) c ?_
  try simp only[A1]
  refine F5 6 (some 17) (v:=.int .i64 z) rfl rfl c (by kernel_rfl) (fun x d=>by have H:=A2 d.2 t;go_simp) ?_
  try simp only[A1]
  refine AL 7 (some 18) c ?_
  try simp only[A1]
  refine AL 8 (some 19) c ?_
  try simp only[A1]
  refine AL 9 (some 20) c ?_
  try simp only[A1]
  refine AL 10 (some 21) c ?_
  try simp only[A1]
  refine F5 11 (some 22) (v:=.int .i64 z) rfl rfl c (by kernel_rfl) (fun x d=>by have H:=A2 d.2 t;go_simp) ?_
  try simp only[A1]
  refine AL 12 (some 23) c ?_
  try simp only[A1]
  refine AL 13 (some 24) c ?_
  try simp only[A1]
  refine AL 14 (some 25) c ?_
  try simp only[A1]
  refine BQ 15 (some 26) (v:=undef) rfl rfl (by kernel_rfl) (by kernel_rfl) (by kernel_rfl) (fun _ _ _ h=>h) c (Or.inr ⟨by kernel_rfl,rfl⟩) ?_
  try simp only[A1]
  refine BQ 16 (some 27) (v:=undef) rfl rfl (by kernel_rfl) (by kernel_rfl) (by kernel_rfl) (fun _ _ _ h=>h) c (Or.inr ⟨by kernel_rfl,rfl⟩) ?_
  try simp only[A1]
  refine BQ 17 (some 28) (v:=undef) rfl rfl (by kernel_rfl) (by kernel_rfl) (by kernel_rfl) (fun _ _ _ h=>h) c (Or.inr ⟨by kernel_rfl,rfl⟩) ?_
  try simp only[A1]
  refine BQ 18 (some 29) (v:=undef) rfl rfl (by kernel_rfl) (by kernel_rfl) (by kernel_rfl) (fun _ _ _ h=>h) c (Or.inr ⟨by kernel_rfl,rfl⟩) ?_
  try simp only[A1]
  refine BQ 19 (some 30) (v:=undef) rfl rfl (by kernel_rfl) (by kernel_rfl) (by kernel_rfl) (fun _ _ _ h=>h) c (Or.inr ⟨by kernel_rfl,rfl⟩) ?_
  try simp only[A1]
  refine AL 20 (some 31) c ?_
  try simp only[A1]
  refine AL 21 (some 2) c ?_
  try simp only[A1]
  refine O9 (by kernel_rfl) ?_ _
  go_wp2
  go_ret
  exact⟨AB (by rfl),by rw[D.out];exact c.1⟩
 ·refine BQ 3 (some 14) (v:=?_) rfl rfl (by kernel_rfl) (by kernel_rfl) (by kernel_rfl) (fun _ _ _ h=>h) c (Or.inl ⟨by kernel_rfl,?_⟩) ?_
  rotate_left
  ·(intro x _;go_simp;try with_reducible rfl)
  rotate_right
  try simp only[A1]
  refine AL 4 (some 15) c ?_
  try simp only[A1]
  refine AL 5 (some 16) c ?_
  try simp only[A1]
  refine F5 6 (some 17) (v:=.int .i64 z) rfl rfl c (by kernel_rfl) (fun x d=>by have H:=A2 d.2 t;go_simp) ?_
  try simp only[A1]
  refine AL 7 (some 18) c ?_
  try simp only[A1]
  refine AL 8 (some 19) c ?_
  try simp only[A1]
  refine AL 9 (some 20) c ?_
  try simp only[A1]
  refine AL 10 (some 21) c ?_
  try simp only[A1]
  refine F5 11 (some 22) (v:=.int .i64 z) rfl rfl c (by kernel_rfl) (fun x d=>by have H:=A2 d.2 t;go_simp) ?_
  try simp only[A1]
  refine AL 12 (some 23) c ?_
  try simp only[A1]
  refine AL 13 (some 24) c ?_
  try simp only[A1]
  refine AL 14 (some 25) c ?_
  try simp only[A1]
  refine AL 15 (some 26) c ?_
  try simp only[A1]
  refine F5 16 (some 27) (v:=.slice b n cb) rfl rfl c (by kernel_rfl) (fun x d=>by have H:=A2 d.2 W;go_simp) ?_
  try simp only[A1]
  refine AL 17 (some 28) c ?_
  try simp only[A1]
  refine AL 18 (some 29) c ?_
  try simp only[A1]
  refine AL 19 (some 30) c ?_
  try simp only[A1]
  refine AL 20 (some 31) c ?_
  try simp only[A1]
  refine AL 21 (some 2) c ?_
  try simp only[A1]
  refine O9 (by kernel_rfl) ?_ _
  go_wp2
  go_ret
  exact⟨AB (by rfl),by rw[D.out];exact c.1⟩
theorem WL {α:Type}{f g:Nat->α->Bool}:∀(s:Nat) (l:List α),(∀n,∀a∈l,f n a=g n a)->AP f s l=AP g s l
 |_,[],_=>rfl
 |s,a::l,h=>by rw[AP,AP,h s a Eu,WL (s+1) l fun n b c=>h n b (Et _ c)]
theorem X0 {f:Nat->Cel->Bool}{N:Nat}:∀(s:Nat) (l:List RowP),(∀r∈l,r.cels.length=N)->AP f (s*N) (l.flatMap (·.cels))=AP (fun i (r:RowP)=>AP f (i*N) r.cels) s l
 |_,[],_=>rfl
 |s,r::l,h=>by
  rw[G7,QM,h r Eu,AP,<-X0 (s+1) l fun x a=>h x (Et _ a),Cv,Nat.one_mul]
theorem sK {inter:Bool}{c:Cel}(h:BE inter c=true):AE c.kind = !ME c:=by
 unfold BE at h;rw[Am] at h;have h2:=h.2;unfold ME;cases hs:c.skip with
 |true=>
  rw[hs,Bc rfl,Am] at h2;have h3:=h2.2;unfold FY at h3;simp only[Am,Bm] at h3;rw[h3.1.1.1]
  rfl
 |false=>
  rw[hs,Bb (by decide)] at h2;simp only[Am] at h2;have h3:=h2.1.1;unfold EI at h3;have h4:c.kind=3\/c.kind=4\/c.kind=0\/c.kind=1:=by
   simp only[B7,Am,Bm] at h3;omega
  rcases h4 with e|e|e|e <;> (rw[e];rfl)
theorem W5 (S:ShP):EL S=(MN S.hd S.zeros S.rows.length&&AP (DJ S.hd.inter (BA S.hd.fmt)) 0 S.rows):=by
 unfold EL MN;rw[show decide (0<=S.zeros/\S.zeros<=262144)=(decide (0<=S.zeros)&&decide (S.zeros<=262144)) by rw[Iz];simp,
  show decide ((S.rows.length:Int)=BC S.hd.fmt)=((S.rows.length:Int)==BC S.hd.fmt) by rw[Iz];simp]
 simp only[Lg]
theorem V0 {S:ShP}(h:EL S=true):S.rows.length<=1000/\∃N:Nat,(0<S.rows.length->BA S.hd.fmt=(N:Int))/\(∀r∈S.rows,r.cels.length=N)/\∀c∈BI S,BE S.hd.inter c=true:=by
 rw[W5,Am] at h;obtain⟨h1,h2⟩:=h;have a:∀r∈S.rows,(r.cels.length:Int)=BA S.hd.fmt/\r.cels.all (BE S.hd.inter)=true:=fun r hr=>by
  obtain⟨i,hi,rfl⟩:=J4.1 hr;have h3:=NM.1 h2 i hi;unfold DJ at h3;simp only[Am,Fb] at h3;exact⟨h3.1,h3.2.2⟩
 refine⟨?_,(BA S.hd.fmt).toNat,fun b=>?_,fun r hr=>?_,fun c hc=>?_⟩
 ·unfold MN at h1;simp only[Am,Bm] at h1;have h4:=h1.2.2.2;rcases JO S.hd.fmt with e|e|e|e|e|e|⟨_,e⟩
  case _|_|_|_|_|_=>
   rw[e] at h4;have d:(S.rows.length:Int)<=1000:=by rw[h4];decide +kernel
   omega
  unfold BC at h4;rw[e] at h4;have d:(S.rows.length:Int)=0:=h4;omega
 ·have:=(a _ (Bl b)).1;omega
 ·have:=(a r hr).1;omega
 ·obtain⟨r,hr,hc⟩:=Nw.1 hc;exact Bu.1 (a r hr).2 c hc
theorem cK {S:ShP}(h:EL S=true){N:Nat}(a:∀r∈S.rows,r.cels.length=N):AP (CC S.hd.fmt) 0 (BI S)=AP (fun i (r:RowP)=>AP (HA S.hd.fmt) (i*N) r.cels) 0 S.rows:=by
 obtain⟨-,-,-,-,h1⟩:=V0 h;rw[<-X0 0 S.rows a,Cf];refine WL 0 _ fun n c hc=>?_;unfold CC HA;rw[sK (h1 c hc)]
theorem QK {α:Type}[Inhabited α]{f:Nat->α->Bool}{l:List α}{n:Nat}(hn:l.length=n):((∀i,i<n->f i (l[i]!)=true)->AP f 0 l=true)/\∀i,i<n->f i (l[i]!)=false->AP f 0 l=false:=by
 subst hn;refine⟨fun h=>NM.2 fun j hj=>?_,fun i hi h=>?_⟩
 ·have:=h j hj;rw[Od l j hj] at this;rwa [As]
 ·rw[Od l i hi] at h;exact SE hi h
theorem Ws {f : FuncId} {fn : Func} {c : Code} (hf : prog.funcs[f]? = some fn) (hname : (fn.name == "runtime.NumGoroutine") = false) (hb : fn.body = some c) (args : Array Value) (w : World) : (callFunc f args).run prog w = .ok (.enter f args) w := by
 have h1 : fn.name ≠ "runtime.NumGoroutine" := by simpa using hname
 simp[callFunc,hf,h1,hb]
theorem oS:∀args x,(callFunc 46 args).run prog x=.ok (.enter 46 args) x:=Ws func46 (by kernel_rfl) rfl
theorem lG:∀args x,(callFunc 47 args).run prog x=.ok (.enter 47 args) x:=Ws func47 (by kernel_rfl) rfl
theorem xL:∃Y:Array A0,Y.size=8/\∀w,(zeroValue 78).run prog w=.ok (.agg Y) w:=⟨#[.int .i64 0,.int .i64 0,.int .i64 0,.bool false,.int .i64 0,.slice none 0 0,.slice none 0 0,.int .i64 0],rfl,LG (by kernel_rfl)⟩
set_option maxRecDepth 100000 in
theorem kS (S:ShP)(p b:Option Addr)(ca cb:Nat)(w:A5)(hl:S.hd.supp.length<=maxLen)(hn:S.rows.length<=4611686018427387904)(hs:BH w p S.hd.supp)(hr:EC w b S.rows)(hc:∀c∈BI S,∀k,k<6->(c.ev k).length<=1048576)(hR:Ph w S.hd.inter):
  A9 prog 20 #[.agg (AQ S.hd (.slice p S.hd.supp.length ca) (.slice b S.rows.length cb) S.zeros).toArray] w fun e w'=>e=.returned (.int .i64 (BT S))/\Below w.heap.size w w':=by
 have n1:∀i (h:i<S.rows.length),∀c∈S.rows[i].cels,c∈BI S:=fun i h c hc=>Nw.2 ⟨_,Bl h,hc⟩;obtain⟨zs,g⟩:=Ai (AQ S.hd (.slice p S.hd.supp.length ca) (.slice b S.rows.length cb) S.zeros);have z6:zs[6]? =some (.slice b S.rows.length cb):=by rw[<-g];rfl
 have z:zs.toArray.all (·.oneCell')=true:=by rw[<-g];exact PG ..
 have j:(prog.info? 78).map (·.size)=some zs.toArray.size:=by rw[show zs.toArray.size=8 by rw[<-g];rfl];kernel_rfl
 have W:(prog.info? 39).map (·.size)=some zs.toArray.size:=by rw[show zs.toArray.size=8 by rw[<-g];rfl];kernel_rfl
 obtain⟨Y,X,al⟩:=xL;have Z:Y.size=zs.toArray.size:=by rw[X,<-g];rfl
 have am:∀(fn:Fn) (first cap:Array A0) (w:A5),(Instr.makeFunc fn first cap).run prog w=.ok (.func fn first cap) w:=fun _ _ _ _=>rfl;obtain⟨B,wA,d,T,s,A,C,aa,D,F,G⟩:=JF w (.cells zs.toArray 39 (0,0)) (.cells zs.toArray 78 (0,0));have H:wA.heap[B]? =some (.cells zs.toArray 39 (0,0)):=by rw[<-s,<-T];exact heap_alloc_new w _
 have t:∀x,Below (B+2) d x->Below w.heap.size w x:=fun x a=>by rw[T];exact G.trans (a.mono (by omega))
 have U:Hid (∀x,Below (B+2) d x->x.heap[B+1]? =some (.cells zs.toArray 78 (0,0))/\x.cell? ⟨B,6,none⟩=some (.slice b S.rows.length cb)/\Below w.heap.size w x):=Dl fun x a=>
  ⟨(a.block (B+1) (by omega)).trans F,A2 ((a.block B (by omega)).trans D) z6,t x a⟩
 have V:∀(x y:A5),Below (B+2) d x->Below x.heap.size x y->Below (B+2) d y:=fun x y a I=>a.trans (I.mono (by have:=a.size;omega));have an:=Dl (fun(x:A5) (a:Below (B+2) d x)=>(by
  rw[<-g];exact(xJ S.hd p b ca cb S.rows.length S.zeros x hl (hs.below (t x a))).mono fun e y h=>⟨h.1,V x y a h.2⟩:A9 prog 44 #[.agg zs.toArray] x fun e y=>e=.returned (.bool (MN S.hd S.zeros S.rows.length))/\Below (B+2) d y))
 have ao:=Dl (fun(x:A5) (a:Below (B+2) d x)=>((WR 46 zs.toArray S.rows.length (fun i=>DJ S.hd.inter (BA S.hd.fmt) i (S.rows[i]!)) (AP (DJ S.hd.inter (BA S.hd.fmt)) 0 S.rows) x hn oS
  (fun i hi _ y I=>by
   have m:=(t x a).trans (I.mono (t x a).size);rw[Od S.rows i hi,<-g];exact rX S p b ca cb i y hi (by unfold maxLen;omega) (hr.below m) (fun c h k hk=>hc c (n1 i hi c h) k hk) (hR.below m))
  (QK rfl).1 (QK rfl).2).mono fun e y h=>⟨h.1,V x y a h.2⟩:A9 prog 45 #[.int .i64 (S.rows.length:Int),.func (.func 46) #[.agg zs.toArray] #[]] x fun e y=>e=.returned (.bool (AP (DJ S.hd.inter (BA S.hd.fmt)) 0 S.rows))/\Below (B+2) d y))
 have ap:=Dl (fun(hT:EL S=true) (x:A5) (a:Below (B+2) d x)=>(by
  obtain⟨hm,N,hN,J,-⟩:=V0 hT;rw[cK hT J];exact(WR 47 zs.toArray S.rows.length (fun i=>AP (HA S.hd.fmt) (i*N) (S.rows[i]!).cels) (AP (fun i (r:RowP)=>AP (HA S.hd.fmt) (i*N) r.cels) 0 S.rows) x hn lG
   (fun i hi _ y I=>by
    have m:=(t x a).trans (I.mono (t x a).size);rw[Od S.rows i hi,<-g];exact dG S p b ca cb i N y hi hm (hN (by omega)) (J _ (Bl hi)) (hr.below m))
   (QK (f:=fun i (r:RowP)=>AP (HA S.hd.fmt) (i*N) r.cels) (l:=S.rows) rfl).1 (QK (f:=fun i (r:RowP)=>AP (HA S.hd.fmt) (i*N) r.cels) (l:=S.rows) rfl).2).mono fun e y h=>⟨h.1,V x y a h.2⟩:A9 prog 45 #[.int .i64 (S.rows.length:Int),.func (.func 47) #[.agg zs.toArray] #[]] x fun e y=>e=.returned (.bool (AP (CC S.hd.fmt) 0 (BI S)))/\Below (B+2) d y))
 have ai:=Dl (W5 S);have ab:=Dl (fun(h:EL S=false)=>Pk h);have aj:=Dl (fun h (h1:AP (CC S.hd.fmt) 0 (BI S)=false)=>V2 h h1);have ak:=Dl (fun h (h1:AP (CC S.hd.fmt) 0 (BI S)=true)=>Sw h h1);have K:Below (B+2) d d:=Dm _ _;have ac:=Dl s;have ad:=Dl A;have L:=Dl T;have ae:=Dl C;rw[g];obtain⟨E,hE⟩:=Ai (BT S)
 rw[hE] at ab aj ak ⊢;clear hE;clear s A T C aa D F G t V z6 g n1 hs hr hc hR hl;generalize S.rows.length=n at *;generalize AP (CC S.hd.fmt) 0 (BI S)=vm at *;generalize AP (DJ S.hd.inter (BA S.hd.fmt)) 0 S.rows=rm at *;generalize MN S.hd S.zeros n=pm at *;generalize EL S=tr at *
 go_enter func20,ntmps20
 have M:=(U.out _ K).1
 go_wp2_with (first|(rw[ac.out,L.out];with_reducible refine N5 rfl 39 _ rfl B rfl 39 zs.toArray (0,0) _ H Nv rfl W ?_)|(with_reducible refine BZ rfl 78 _ _ rfl zs.toArray Y 78 rfl rfl j Z z ?_;rw[ad.out,ae.out])|(with_reducible refine N5 rfl 78 _ rfl (B+1) rfl 78 zs.toArray (0,0) _ M Nx rfl j ?_))
 refine(an.out _ K).mono ?_;rintro e w1 ⟨rfl,O⟩;obtain⟨P,af,u⟩:=U.out w1 O;clear M H;cases pm with
 |false=>
  have v:=Dl (ab.out (by rw[ai.out];rfl))
  go_wp2
  go_ret
  exact⟨by rw[v.out];rfl,by first|exact u|(rw[<-L.out];exact u)⟩
 |true=>
  have o:=Dl (show tr=rm from ai.out)
  go_wp2_with (with_reducible refine MB (by kernel_rfl) 78 _ rfl (B+1) rfl 78 zs.toArray (0,0) _ P Nx rfl j ?_)
  refine(ao.out _ O).mono ?_;rintro e w2 ⟨rfl,Q⟩;obtain⟨ag,aq,R⟩:=U.out w2 Q;clear P af u;cases rm with
  |false=>
   have v:=Dl (ab.out o.out)
   go_wp2
   go_ret
   exact⟨by rw[v.out];rfl,by first|exact R|(rw[<-L.out];exact R)⟩
  |true=>
   have c3:=ap.out o.out w2 Q
   go_wp2_with (with_reducible refine N5 rfl 78 _ rfl (B+1) rfl 78 zs.toArray (0,0) _ ag Nx rfl j ?_)
   refine c3.mono ?_;rintro e w3 ⟨rfl,ah⟩;have q:=(U.out w3 ah).2.2;cases vm with
   |false=>
    have v:=Dl (aj.out o.out rfl)
    go_wp2
    go_ret
    exact⟨by rw[v.out];rfl,by first|exact q|(rw[<-L.out];exact q)⟩
   |true=>
    have v:=Dl (ak.out o.out rfl)
    go_wp2
    go_ret
    exact⟨by rw[v.out];rfl,by first|exact q|(rw[<-L.out];exact q)⟩
def sZ (N:Nat)(w0:A5)(b c:List A0)(v u:A0)(w:A5):Prop:=∃X a:Nat,v=.pointer (some ⟨X,0,none⟩)/\u=.pointer (some ⟨a,0,none⟩)/\w.heap[X]? =some (.cells b.toArray 46 (0,0))/\w.heap[a]? =some (.cells c.toArray 46 (0,0))/\Below N w0 w
theorem Q7 {w w0:A5}{N X c:Nat}{T:TypeId}{Y Z:Array A0}{o:Obj}(h:w.heap[X]? =some (.cells Y T (0,0)))(f:w.heap[c]? =some o)(d:c≠X)(g:Below N w0 w)(l:N<=X)(i:N<=w.heap.size):
  ∃a,w.setRow X Z=a/\a.heap[X]? =some (.cells Z T (0,0))/\a.heap[c]? =some o/\Below N w0 a:=by
 have j:w.grownBy (w.setRow X Z) (some X):=⟨rfl,rfl,rfl,by simp,fun k _ b=>Em _ _ _ _ (by intro e;exact b (by rw[e]))⟩;exact⟨_,rfl,En _ _ _ _ _ _ h,(Em _ _ _ _ d).trans f,g.grown j i (fun k b=>by injection b with b;omega)⟩
set_option maxRecDepth 100000 in
theorem pI (S q:ShP)(p b p' b':Option Addr)(ca cb bb ad:Nat)(w:A5)(hl:S.hd.supp.length<=maxLen)(hn:S.rows.length<=maxLen)(hs:BH w p S.hd.supp)(bs:BH w p' q.hd.supp)(hr:EC w b S.rows)(bt:EC w b' q.rows)
  (hc:∀c∈BI S,∀k,k<6->(c.ev k).length<=1048576)(bu:∀c∈BI q,∀k,k<6->(c.ev k).length<=1048576):
  A9 prog 26 #[.agg (AQ S.hd (.slice p S.hd.supp.length ca) (.slice b S.rows.length cb) S.zeros).toArray,.agg (AQ q.hd (.slice p' q.hd.supp.length bb) (.slice b' q.rows.length ad) q.zeros).toArray] w fun e w'=>e=.returned (.bool (shB S q))/\Below w.heap.size w w':=by
 have bv:∀r∈S.rows,∀c∈r.cels,∀k,k<6->(c.ev k).length<=1048576:=fun r h c h2=>hc c (Nw.2 ⟨r,h,h2⟩);have a4:∀r∈q.rows,∀c∈r.cels,∀k,k<6->(c.ev k).length<=1048576:=fun r h c h2=>bu c (Nw.2 ⟨r,h,h2⟩)
 have hD:=fun x (a:Below w.heap.size w x)=>xW S.hd q.hd p p' ca bb (.slice b S.rows.length cb) (.slice b' q.rows.length ad) S.zeros q.zeros hl x (hs.below a) (bs.below a);unfold maxLen at hn;obtain⟨zs,hZ⟩:=Ai (AQ S.hd (.slice p S.hd.supp.length ca) (.slice b S.rows.length cb) S.zeros)
 obtain⟨ys,hY⟩:=Ai (AQ q.hd (.slice p' q.hd.supp.length bb) (.slice b' q.rows.length ad) q.zeros);have z6:zs[6]? =some (.slice b S.rows.length cb):=by rw[<-hZ];rfl
 have z7:zs[7]? =some (.int .i64 S.zeros):=by rw[<-hZ];rfl
 have y6:ys[6]? =some (.slice b' q.rows.length ad):=by rw[<-hY];rfl
 have y7:ys[7]? =some (.int .i64 q.zeros):=by rw[<-hY];rfl
 have cx:(prog.info? 39).map (·.size)=some zs.toArray.size:=by rw[show zs.toArray.size=8 by rw[<-hZ];rfl];kernel_rfl
 have cy:(prog.info? 39).map (·.size)=some ys.toArray.size:=by rw[show ys.toArray.size=8 by rw[<-hY];rfl];kernel_rfl
 rw[hZ,hY];simp only[hZ,hY] at hD;obtain⟨A,wA,P,hA,bw,bx,bz,b0,bc,bd,b3⟩:=JF w (.cells zs.toArray 39 (0,0)) (.cells ys.toArray 39 (0,0));have cz:∀x,Below (A+2) P x->Below w.heap.size w x:=fun x a=>by rw[hA];exact b3.trans (a.mono (by omega))
 have c1:∀(x y:A5),Below (A+2) P x->Below x.heap.size x y->Below (A+2) P y:=fun x y a hy=>a.trans (hy.mono (by have:=a.size;omega))
 have ah:Hid (∀x,Below (A+2) P x->(x.cell? ⟨A,6,none⟩=some (.slice b S.rows.length cb)/\x.cell? ⟨A,7,none⟩=some (.int .i64 S.zeros)/\x.cell? ⟨A+1,6,none⟩=some (.slice b' q.rows.length ad)/\x.cell? ⟨A+1,7,none⟩=some (.int .i64 q.zeros))/\Below w.heap.size w x):=Dl fun x a=>by
  have h1:=(a.block A (by omega)).trans bc;have h2:=(a.block (A+1) (by omega)).trans bd;exact⟨⟨A2 h1 z6,A2 h1 z7,A2 h2 y6,A2 h2 y7⟩,cz x a⟩
 have dw:=Dl (fun(x:A5) (a:Below (A+2) P x)=>((hD x (cz x a)).mono fun e y h=>⟨h.1,c1 x y a h.2⟩:A9 prog 57 #[.agg zs.toArray,.agg ys.toArray] x fun e y=>e=.returned (.bool (JJ S.hd q.hd))/\Below (A+2) P y));obtain⟨R,hR⟩:=Ai (shB S q)
 have aa:R=(JJ S.hd q.hd&&(S.zeros==q.zeros&&(decide (S.rows.length=q.rows.length)&&(S.rows.zip q.rows).all fun p=>rwB p.1 p.2))):=hR.symm;rw[hR];have dx:=Dl hr;have dy:=Dl bt;have c2:=Dl bv;have c3:=Dl a4;generalize JJ S.hd q.hd=sd at *;generalize S.zeros=z at *;generalize q.zeros=z' at *;clear hc bu hZ hY;generalize S.rows=l at *;generalize q.rows=m at *
 have dz:=Dl c1;have c4:=Dl bw;have c5:=Dl bx;have d0:=Dl hA;have d3:=Dl bz;have s:=Dl b0;have b4:Below (A+2) P P:=Dm _ _;obtain⟨⟨k6,k7,q6,q7⟩,c6⟩:=ah.out _ b4;clear bw bx hA bz b0 b3 cz c1 z6 z7 y6 y7 hs bs hr bt bv a4 hD hR hl
 go_enter func26,ntmps26
 go_wp2_with (first|(rw[c4.out,d0.out,c5.out];with_reducible refine N5 rfl 39 _ rfl A rfl 39 zs.toArray (0,0) _ bc Nv rfl cx ?_)|(with_reducible refine N5 rfl 39 _ rfl (A+1) rfl 39 ys.toArray (0,0) _ bd Nv rfl cy ?_))
 refine(dw.out _ b4).mono ?_;rintro e w1 ⟨rfl,ae⟩;clear k6 k7 q6 q7 c6 bc bd;obtain⟨⟨k6,k7,q6,q7⟩,aq⟩:=ah.out _ ae;cases sd with
 |false=>
  have F:=Dl (show R=false from aa)
  go_wp2
  go_ret
  exact⟨by rw[F.out];rfl,aq⟩
 |true=>
 by_cases ez:z=z'
 case neg=>
  have t1:(z != z')=true:=by rw[Ff];exact ez
  have F:=Dl (show R=false by rw[aa,Ez.2 ez];rfl);clear aa ez
  go_wp2
  go_ret
  exact⟨by rw[F.out];rfl,aq⟩
 subst ez;have t1:(z != z)=false:=by simp
 by_cases el:l.length=m.length
 case neg=>
  have t2:((l.length:Int) != (m.length:Int))=true:=by rw[Ff];omega
  have F:=Dl (show R=false by rw[aa,Gp el];simp);clear aa el
  go_wp2
  go_ret
  exact⟨by rw[F.out];rfl,aq⟩
 have t2:((l.length:Int) != (m.length:Int))=false:=by rw[el];simp
 have br:=Dl (show R=(l.zip m).all (fun p=>rwB p.1 p.2) by rw[aa,Gq el];simp);have ds:=Dl el;clear aa el;obtain⟨n,bf⟩:=Ai l.length;obtain⟨n',bg⟩:=Ai m.length;rw[bf] at hn ah k6 t2;rw[bg] at ah q6 t2;have c7:=Dl bf;have d4:=Dl bg;clear bf bg
 go_wp2
 clear t1 t2 k6 k7 q6 q7 aq
 go_loopw [5] (fun z wr=>∃i:Nat,i<=n/\z=.int .i64 (i:Int)/\Hid ((((l.take i).zip (m.take i)).all fun p=>rwB p.1 p.2)=true)/\Below (A+2) P wr) (fun z _=>n-(intOf z).toNat)
 case atStart=>exact⟨0,Dn _,rfl,Dl rfl,ae⟩
 case round=>
  clear ae;obtain⟨i,hi,rfl,ha,T⟩:=hrel;obtain⟨⟨k6,-,q6,-⟩,hE⟩:=ah.out _ T;by_cases c8:i<n
  ·have t0:decide ((i:Int)<(n:Int))=true:=by simp;omega
   have ai:i<l.length:=by rw[c7.out];exact c8
   have aj:i<m.length:=by rw[<-ds.out];exact ai
   have dt:i<n':=by rw[<-d4.out];exact aj
   obtain⟨b1,o1,rfl,d5,a5⟩:=JM dx.out (by omega);obtain⟨rx,kx,c9,b5,ak,a6⟩:=a5 i ai;obtain⟨U,V⟩:=Ai ([Value.bool l[i].head,.int .i64 l[i].id,.int .i64 l[i].quant,.slice rx l[i].cels.length kx]);have bh:U.length=4:=by rw[<-V];rfl
   have bi:U.toArray.all (·.oneCell')=true:=by rw[<-V];simp[Value.oneCell']
   have b6:U[0]? =some (.bool l[i].head):=by rw[<-V];rfl
   have ae:U[1]? =some (.int .i64 l[i].id):=by rw[<-V];rfl
   have b7:U[2]? =some (.int .i64 l[i].quant):=by rw[<-V];rfl
   have bj:U[3]? =some (.slice rx l[i].cels.length kx):=by rw[<-V];rfl
   have b8:∀x,Below w.heap.size w x->x.rangeAt b1 (o1+i*4) U:=fun x a k v d=>by
    obtain⟨a0,a1,a2,a3⟩:=a6 x a;rw[<-V] at d
    match k,d with
    |0,d=>injection d with d;subst d;exact a0
    |1,d=>injection d with d;subst d;exact a1
    |2,d=>injection d with d;subst d;exact a2
    |3,d=>injection d with d;subst d;exact a3
   have b9:=c2.out l[i] (Bl ai);clear a5 a6 V;obtain⟨b2,o2,rfl,ar,a7⟩:=JM dy.out (by omega);obtain⟨ry,ky,da,db,al,a8⟩:=a7 i aj;obtain⟨W,B⟩:=Ai ([Value.bool m[i].head,.int .i64 m[i].id,.int .i64 m[i].quant,.slice ry m[i].cels.length ky]);have bk:W.length=4:=by rw[<-B];rfl
   have bl:W.toArray.all (·.oneCell')=true:=by rw[<-B];simp[Value.oneCell']
   have cc:W[0]? =some (.bool m[i].head):=by rw[<-B];rfl
   have cd:W[1]? =some (.int .i64 m[i].id):=by rw[<-B];rfl
   have ce:W[2]? =some (.int .i64 m[i].quant):=by rw[<-B];rfl
   have bm:W[3]? =some (.slice ry m[i].cels.length ky):=by rw[<-B];rfl
   have cf:∀x,Below w.heap.size w x->x.rangeAt b2 (o2+i*4) W:=fun x a k v d=>by
    obtain⟨a0,a1,a2,a3⟩:=a8 x a;rw[<-B] at d
    match k,d with
    |0,d=>injection d with d;subst d;exact a0
    |1,d=>injection d with d;subst d;exact a1
    |2,d=>injection d with d;subst d;exact a2
    |3,d=>injection d with d;subst d;exact a3
   have cg:=c3.out m[i] (Bl aj);clear a7 a8 B;have ch:=Dl (fun h=>ND (f:=rwB) ai aj ha.out h);have au:=Dl (fun h=>NF (f:=rwB) ai aj h);have bn:(prog.info? 46).map (·.size)=some U.length:=by rw[bh];kernel_rfl
   have bo:(prog.info? 46).map (·.size)=some W.length:=by rw[bk];kernel_rfl
   obtain⟨Y,bp,dc⟩:=Ps;generalize dd:l[i]=ra at *;generalize de:m[i]=rb at *;clear dd de
   go_upto_region 6 with fail
   go_cut [6,7] from 36 to 45 (fun v u wx=>sZ (A+2) P U W v u wx)
   case first=>
    obtain⟨D,hD⟩:=Ai wr.heap.size;have af:=Dl hD;clear hD;have a9:(prog.info? 46).map (·.size)=some U.toArray.size:=bn;have ba:(prog.info? 46).map (·.size)=some W.toArray.size:=bo;have ci:Y.size=U.toArray.size:=by rw[bp];exact bh.symm
    have cj:Y.size=W.toArray.size:=by rw[bp];exact bk.symm
    refine Oa (S:=fun x=>Below (A+2) P x) (by kernel_rfl) T.drew (fun o=>?_);refine AL 0 (some 36) o ?_
    try simp only[A1]
    refine F5 1 (some 37) (v:=.slice (some ⟨b1,o1,none⟩) n cb) rfl rfl o (by kernel_rfl) (fun x a=>by have c0:=(ah.out x a).1.1;go_simp) ?_
    try simp only[A1]
    refine AL 2 (some 38) o ?_
    try simp only[A1]
    refine AL 3 (some 39) o ?_
    try simp only[A1]
    refine BQ 4 (some 40) (v:=.agg U.toArray) rfl rfl (by kernel_rfl) (by kernel_rfl) (by kernel_rfl) (fun _ _ _ h=>h) o (yieldsIf_load_mid (by kernel_rfl) 46 _ rfl b1 (o1+i*4) (by kernel_rfl) U _ (fun x a=>b8 x (ah.out x a).2) J3 rfl bn) ?_
    try simp only[A1]
    refine AL 5 (some 41) o ?_
    try simp only[A1]
    refine F5 6 (some 42) (v:=.slice (some ⟨b2,o2,none⟩) n' ad) rfl rfl o (by kernel_rfl) (fun x a=>by have c0:=(ah.out x a).1.2.2.1;go_simp) ?_
    try simp only[A1]
    refine AL 7 (some 43) o ?_
    try simp only[A1]
    refine AL 8 (some 44) o ?_
    try simp only[A1]
    refine BQ 9 (some 45) (v:=.agg W.toArray) rfl rfl (by kernel_rfl) (by kernel_rfl) (by kernel_rfl) (fun _ _ _ h=>h) o (yieldsIf_load_mid (by kernel_rfl) 46 _ rfl b2 (o2+i*4) (by kernel_rfl) W _ (fun x a=>cf x (ah.out x a).2) J3 rfl bo) ?_
    try simp only[A1]
    refine O8 (rs:=[10,11]) (by kernel_rfl) (by simp) ?_;refine O6 rfl (fun K C=>?_) (O6 rfl (fun K C=>?_) O7)
    ·go_simp
     rw[af.out];have E:Below (A+2) P (wr.alloc (.cells Y 46 (0,0))).drew:=(T.alloc (by have:=T.size;have:=s.out;omega) _).drew;refine C.out _ _ E (fun g=>?_);clear C K o g;have o:=E
     try simp only[A1]
     obtain⟨v1,M⟩:=Ai ((wr.alloc (.cells Y 46 (0,0))).drew);have g1:v1.heap[D]? =some (.cells Y 46 (0,0)):=by rw[<-M,<-af.out];exact heap_alloc_new wr _
     have s1:v1.heap.size=D+1:=by rw[<-M,<-af.out];show (wr.alloc _).heap.size=_;simp
     rw[M] at E o ⊢;clear M;refine O8 (rs:=[11]) (by kernel_rfl) (by simp) ?_;refine O6 rfl (fun K C=>?_) O7
     go_simp
     have t:Below (A+2) P (v1.alloc (.cells Y 46 (0,0))):=E.alloc (by have:=T.size;have:=s.out;have:=af.out;omega) _;refine C.out _ _ t (fun g=>?_);clear C K o g;have o:=t
     try simp only[A1]
     obtain⟨v2,O⟩:=Ai (v1.alloc (.cells Y 46 (0,0)));have g2:v2.heap[D+1]? =some (.cells Y 46 (0,0)):=by rw[<-O,<-s1];exact heap_alloc_new v1 _
     have g3:v2.heap[D]? =some (.cells Y 46 (0,0)):=by rw[<-O];exact CH g1
     rw[O] at t o ⊢;clear O E g1 s1;refine O8 (rs:=[12]) (by kernel_rfl) (by simp) ?_;refine O6 rfl (fun K C=>?_) O7;refine(Bc (by kernel_rfl)).mpr ?_;obtain⟨v3,am,e3,ab,G⟩:=Q7 (Z:=U.toArray) g3 g2 (by omega) t (by have:=T.size;have:=s.out;have:=af.out;omega) (by have:=t.size;have:=s.out;omega)
     refine Ob 46 _ _ rfl (D) U.toArray rfl rfl 46 Y g3 a9 ci bi ?_;rw[am];refine C.out _ _ G (fun g=>?_);clear C K o g am t g2 g3;have o:=G
     try simp only[Act.put]
     refine O8 (rs:=[13]) (by kernel_rfl) (by simp) ?_;refine O6 rfl (fun K C=>?_) O7;refine(Bc (by kernel_rfl)).mpr ?_;obtain⟨v4,an,e4,bq,ac⟩:=Q7 (Z:=W.toArray) ab e3 (by omega) G (by have:=T.size;have:=s.out;have:=af.out;omega) (by have:=G.size;have:=s.out;omega);refine Ob 46 _ _ rfl (D+1) W.toArray rfl rfl 46 Y ab ba cj bl ?_
     rw[an];refine C.out _ _ ac (fun g=>?_);clear C K o g an G e3 ab;have o:=ac
     try simp only[Act.put]
     refine O9 (by kernel_rfl) ?_ _
     go_wp2
     go_meet
     case rel=>exact⟨D,D+1,rfl,rfl,bq,e4,ac⟩
    ·go_simp
     rw[af.out];have E:Below (A+2) P (wr.alloc (.cells Y 46 (0,0))).drew:=(T.alloc (by have:=T.size;have:=s.out;omega) _).drew;refine C.out _ _ E (fun g=>?_);clear C K o g;have o:=E
     try simp only[A1]
     obtain⟨v1,M⟩:=Ai ((wr.alloc (.cells Y 46 (0,0))).drew);have g1:v1.heap[D]? =some (.cells Y 46 (0,0)):=by rw[<-M,<-af.out];exact heap_alloc_new wr _
     have s1:v1.heap.size=D+1:=by rw[<-M,<-af.out];show (wr.alloc _).heap.size=_;simp
     rw[M] at E o ⊢;clear M;refine O8 (rs:=[10]) (by kernel_rfl) (by simp) ?_;refine O6 rfl (fun K C=>?_) O7
     go_simp
     have t:Below (A+2) P (v1.alloc (.cells Y 46 (0,0))):=E.alloc (by have:=T.size;have:=s.out;have:=af.out;omega) _;refine C.out _ _ t (fun g=>?_);clear C K o g;have o:=t
     try simp only[A1]
     obtain⟨v2,O⟩:=Ai (v1.alloc (.cells Y 46 (0,0)));have g2:v2.heap[D+1]? =some (.cells Y 46 (0,0)):=by rw[<-O,<-s1];exact heap_alloc_new v1 _
     have g3:v2.heap[D]? =some (.cells Y 46 (0,0)):=by rw[<-O];exact CH g1
     rw[O] at t o ⊢;clear O E g1 s1;refine O8 (rs:=[12]) (by kernel_rfl) (by simp) ?_;refine O6 rfl (fun K C=>?_) O7;refine(Bc (by kernel_rfl)).mpr ?_;obtain⟨v3,am,e3,ab,G⟩:=Q7 (Z:=U.toArray) g2 g3 (by omega) t (by have:=T.size;have:=s.out;have:=af.out;omega) (by have:=t.size;have:=s.out;omega)
     refine Ob 46 _ _ rfl (D+1) U.toArray rfl rfl 46 Y g2 a9 ci bi ?_;rw[am];refine C.out _ _ G (fun g=>?_);clear C K o g am t g2 g3;have o:=G
     try simp only[Act.put]
     refine O8 (rs:=[13]) (by kernel_rfl) (by simp) ?_;refine O6 rfl (fun K C=>?_) O7;refine(Bc (by kernel_rfl)).mpr ?_;obtain⟨v4,an,e4,bq,ac⟩:=Q7 (Z:=W.toArray) ab e3 (by omega) G (by have:=T.size;have:=s.out;have:=af.out;omega) (by have:=G.size;have:=s.out;omega);refine Ob 46 _ _ rfl (D) W.toArray rfl rfl 46 Y ab ba cj bl ?_
     rw[an];refine C.out _ _ ac (fun g=>?_);clear C K o g an G e3 ab;have o:=ac
     try simp only[Act.put]
     refine O9 (by kernel_rfl) ?_ _
     go_wp2
     go_meet
     case rel=>exact⟨D+1,D,rfl,rfl,bq,e4,ac⟩
   case rest=>
    obtain⟨X,df,rfl,rfl,e1,e2,ar⟩:=hcut;generalize wr=wo at *;obtain⟨H,I,Q,J⟩:=ra;obtain⟨ag,ck,Q',mc⟩:=rb;dsimp only at *;have a0:=A2 e1 b6;have a1:=A2 e1 ae;have a2:=A2 e1 b7;have a3:=A2 e1 bj;have f0:=A2 e2 cc;have f1:=A2 e2 cd;have f2:=A2 e2 ce;have f3:=A2 e2 bm;have av:=(ah.out _ ar).2
    have aw:Hid (∀x,Below wc.heap.size wc x->x.cell? ⟨X,3,none⟩=some (.slice rx J.length kx)/\x.cell? ⟨df,3,none⟩=some (.slice ry mc.length ky)/\Below (A+2) P x/\Below w.heap.size w x):=Dl fun x a=>by
     have h1:=(a.block X (An.1 e1).1).trans e1;have h2:=(a.block df (An.1 e2).1).trans e2;have h3:Below (A+2) P x:=ar.trans (a.mono (by have:=ar.size;have:=s.out;omega));exact⟨A2 h1 bj,A2 h2 bm,h3,(ah.out x h3).2⟩
    have L:rwB ⟨H,I,Q,J⟩ ⟨ag,ck,Q',mc⟩=((H==ag&&(I==ck&&Q==Q'))&&(decide (J.length=mc.length)&&(J.zip mc).all fun p=>CG p.1 p.2)):=rfl;generalize rwB ⟨H,I,Q,J⟩ ⟨ag,ck,Q',mc⟩=rr at *;have dg:=Dl ak;have dh:=Dl al;have di:=Dl b9;have dj:=Dl cg;have dk:=Dl b5
    clear e1 e2 b6 ae b7 bj cc cd ce bm ak al b9 cg b5 db c9 da b8 cf bi bl bh bk T hE ha bn bo dc bp;have dl:ag=H\/ag = !H:=by cases H <;> cases ag <;> simp
    rcases dl with rfl|rfl
    case inr=>
     have F:=Dl (au.out (by rw[L];cases H <;> rfl));clear ch au L;cases H <;>
     (go_wp2
      go_ret
      exact⟨by rw[br.out,F.out];rfl,av⟩)
    have tH:(ag != ag)=false:=by simp
    by_cases eI:I=ck
    case neg=>
     have tI:(I != ck)=true:=by rw[Ff];exact eI
     have F:=Dl (au.out (by rw[L,Ez.2 eI];simp));clear ch au L eI tH;cases ag <;>
     (go_wp2
      go_ret
      exact⟨by rw[br.out,F.out];rfl,av⟩)
    subst eI;have tI:(I != I)=false:=by simp
    by_cases eQ:Q=Q'
    case neg=>
     have tQ:(Q != Q')=true:=by rw[Ff];exact eQ
     have F:=Dl (au.out (by rw[L,Ez.2 eQ];simp));clear ch au L eQ tH;cases ag <;>
     (go_wp2
      go_ret
      exact⟨by rw[br.out,F.out];rfl,av⟩)
    subst eQ;have tQ:(Q != Q)=false:=by simp
    by_cases eL:J.length=mc.length
    case neg=>
     have tL:((J.length:Int) != (mc.length:Int))=true:=by rw[Ff];omega
     have F:=Dl (au.out (by rw[L,Gp eL];simp));clear ch au L eL tH;cases ag <;>
     (go_wp2
      go_ret
      exact⟨by rw[br.out,F.out];rfl,av⟩)
    have tL:((J.length:Int) != (mc.length:Int))=false:=by rw[eL];simp
    have du:=Dl (show rr=(J.zip mc).all (fun p=>CG p.1 p.2) by rw[L,Gq eL];simp);have cl:=Dl eL;have dm:Below wc.heap.size wc wc:=Dm _ _;clear L eL tH;cases ag
    all_goals
     go_wp2
     clear a0 a1 a2 a3 f0 f1 f2 f3 tI tQ tL
     go_loopw [8] (fun z wr=>∃j:Nat,j<=J.length/\z=.int .i64 (j:Int)/\Hid ((((J.take j).zip (mc.take j)).all fun p=>CG p.1 p.2)=true)/\Below wc.heap.size wc wr) (fun z _=>J.length-(intOf z).toNat)
     case atStart=>exact⟨0,Dn _,rfl,Dl rfl,dm⟩
     case round=>
      obtain⟨j,hj,rfl,ha,T⟩:=hrel;have d6:J.length<=9223372036854775807:=by have:=dk.out;unfold maxLen at this;omega
      by_cases ao:j<J.length
      ·have t3:decide ((j:Int)<(J.length:Int))=true:=by simp;omega
       have ap:j<mc.length:=by rw[<-cl.out];exact ao
       have t4:j<mc.length:=ap;obtain⟨a3,-,-,-⟩:=aw.out _ T;obtain⟨d1,g1,rfl,d7,cm⟩:=BO.each dg.out (by omega);obtain⟨d2,g2,rfl,d8,cn⟩:=BO.each dh.out (by omega);obtain⟨vs,hV,co⟩:=cm j ao;obtain⟨ax,hU,cp⟩:=cn j ap;have cq:=hV.shape.1;have cr:=hU.shape.1;obtain⟨p3,cs,ct,-,cu⟩:=hV;obtain⟨p4,cv,B,-,cw⟩:=hU
       have dn:(prog.info? 77).map (·.size)=some vs.length:=by rw[cq];kernel_rfl
       have dp:(prog.info? 77).map (·.size)=some ax.length:=by rw[cr];kernel_rfl
       have d9:=Dl co;have ea:=Dl cp;have dv:=Dl (fun(x:A5) (a:Below wc.heap.size wc x)=>(by
        rw[ct,B]
        exact(oL J[j] mc[j] p3 p4 (fun i=>(J[j].ev i).length) (fun i=>(mc[j].ev i).length) cs cv x (fun i hi=>⟨rfl,di.out _ (Bl ao) i hi,(cu i hi).2.below (aw.out x a).2.2.2⟩) (fun i hi=>⟨rfl,dj.out _ (Bl ap) i hi,(cw i hi).2.below (aw.out x a).2.2.2⟩)).mono fun e y h=>⟨h.1,a.trans (h.2.mono a.size)⟩:A9 prog 58 #[.agg vs.toArray,.agg ax.toArray] x fun e y=>e=.returned (.bool (CG J[j] mc[j]))/\Below wc.heap.size wc y))
       have ay:=Dl (fun h=>ND (f:=CG) ao ap ha.out h);have az:=Dl (fun h=>NF (f:=CG) ao ap h);clear cm cn co cp ct B cu cw ha;generalize CG J[j] mc[j]=y at dv ay az
       go_wp2
       refine BU (S:=fun x=>Below wc.heap.size wc x) 12 (by kernel_rfl) (by kernel_rfl) T.drew ?_;simp only[Dp,Bk,Gs,Gt];refine AJ ?_;simp only[A1];refine AR 44 _ ⟨X,3,none⟩ (.slice (some ⟨d1,g1,none⟩) J.length kx) (by kernel_rfl) rfl rfl (fun x a=>by have c0:=(aw.out x a).1;go_simp) ?_;simp only[A1]
       iterate 2 (refine AJ ?_;simp only[A1])
       refine AR 77 _ ⟨d1,g1+j*18,none⟩ (.agg vs.toArray) (by kernel_rfl) rfl rfl (fun x a=>MR x d1 (g1+j*18) 77 vs _ (d9.out x (aw.out x a).2.2.2) J2 rfl dn) ?_;simp only[A1];refine AJ ?_;simp only[A1];refine AR 44 _ ⟨df,3,none⟩ (.slice (some ⟨d2,g2,none⟩) mc.length ky) (by kernel_rfl) rfl rfl (fun x a=>by have c0:=(aw.out x a).2.1;go_simp) ?_;simp only[A1]
       iterate 2 (refine AJ ?_;simp only[A1])
       refine AR 77 _ ⟨d2,g2+j*18,none⟩ (.agg ax.toArray) (by kernel_rfl) rfl rfl (fun x a=>MR x d2 (g2+j*18) 77 ax _ (ea.out x (aw.out x a).2.2.2) J2 rfl dp) ?_;simp only[A1];refine AY (by kernel_rfl) dv.out (fun _=>by kernel_rfl) ?_;simp only[A1];refine AJ ?_;simp only[A1];refine BS fun x a=>?_;cases y with
       |true=>
        have N:=Dl (ay.out rfl);clear ay az
        go_wp2
        go_roundw
        case rel=>exact⟨j+1,by omega,by go_num,N,a⟩
        case measure=>simp[intOf];omega
       |false=>
        have N:=Dl (au.out (by rw[du.out];exact az.out rfl));have dq:=(aw.out _ a).2.2.2;clear ay az
        go_wp2
        go_ret
        exact⟨by rw[br.out,N.out];rfl,dq⟩
      ·obtain rfl:J.length=j:=by omega
       have t3:decide ((J.length:Int)<(J.length:Int))=false:=by simp
       obtain⟨a3,-,dr,-⟩:=aw.out _ T;have N:=Dl (ch.out (by
        rw[du.out];have h:=ha.out;rw[Bh (Ba _),Bh (by have:=cl.out;omega)] at h;exact h))
       go_wp2
       go_roundw
       case rel=>exact⟨i+1,by omega,by go_num,N,dr⟩
       case measure=>simp[intOf];omega
  ·obtain rfl:n=i:=by omega
   have t0:decide ((n:Int)<(n:Int))=false:=by simp
   have N:=Dl (show (l.zip m).all (fun p=>rwB p.1 p.2)=true by
    have h:=ha.out;rw[Bh (by have:=c7.out;omega),Bh (by have:=c7.out;have:=ds.out;omega)] at h;exact h)
   go_wp2
   go_ret
   exact⟨by rw[br.out,N.out];rfl,hE⟩
end Go.Proofs.YtjjmalchelniiaaGreatDoor