/- No condition. -/
import Derived.Test.YtjjmalchelniiaaGreatDoorZpa
import Derived.Test.YtjjmalchelniiaaGreatDoorZpn
import Derived.Test.YtjjmalchelniiaaGreatDoorZpo
import Derived.Test.YtjjmalchelniiaaGreatDoorZpz
import Derived.Test.YtjjmalchelniiaaGreatDoorZpbq
open Go.Proofs.Tryz
open Go renaming World->A5,Calls->A9,Value->A0
set_option maxHeartbeats 4000000
namespace Go.Proofs.YtjjmalchelniiaaGreatDoor
open Go.RowKit Go.Lib
theorem Wfo{p:Prop}(h:p:=by
 go_wp2
 go_ret
 exact⟨by rw[v.out];rfl,by first|exact q|(rw[<-L.out];exact q)⟩):p:=h
theorem Wfm{p:Prop}(h:p:=by
 try simp only[A1]
 refine AC 8 (some 19) c ?_
 try simp only[A1]
 refine AC 9 (some 20) c ?_
 try simp only[A1]
 refine BY 10 (some 21) (v:=undef) rfl rfl tN tN tN Wbr c (Or.inr ⟨tN,rfl⟩) ?_
 try simp only[A1]
 refine BY 11 (some 22) (v:=undef) rfl rfl tN tN tN Wbr c (Or.inr ⟨tN,rfl⟩) ?_
 try simp only[A1]
 refine BY 12 (some 23) (v:=undef) rfl rfl tN tN tN Wbr c (Or.inr ⟨tN,rfl⟩) ?_
 exact Wfl):p:=h
theorem Wfl{p:Prop}(h:p:=by
 try simp only[A1]
 refine AC 13 (some 24) c ?_
 try simp only[A1]
 refine AC 14 (some 25) c ?_
 try simp only[A1]
 refine BY 15 (some 26) (v:=undef) rfl rfl tN tN tN Wbr c (Or.inr ⟨tN,rfl⟩) ?_
 try simp only[A1]
 refine BY 16 (some 27) (v:=undef) rfl rfl tN tN tN Wbr c (Or.inr ⟨tN,rfl⟩) ?_
 try simp only[A1]
 refine BY 17 (some 28) (v:=undef) rfl rfl tN tN tN Wbr c (Or.inr ⟨tN,rfl⟩) ?_
 try simp only[A1]
 refine BY 18 (some 29) (v:=undef) rfl rfl tN tN tN Wbr c (Or.inr ⟨tN,rfl⟩) ?_
 try simp only[A1]
 refine BY 19 (some 30) (v:=undef) rfl rfl tN tN tN Wbr c (Or.inr ⟨tN,rfl⟩) ?_
 try simp only[A1]
 refine AC 20 (some 31) c ?_
 try simp only[A1]
 refine AC 21 (some 2) c ?_
 try simp only[A1]
 refine Pd tN ?_ _
 go_wp2
 go_ret
 exact⟨AJ vA,Wad⟩):p:=h
theorem zV{p:Prop}(h:p:=by have:=P.size;have:=q.out;have:=af.out;omega):p:=h
theorem zW{p:Prop}(h:p:=by rw[show zs.toArray.size=8 by rw[<-hZ];rfl];kernel_rfl):p:=h
theorem zX{p:Prop}(h:p:=by have c0:=AA d.2 t;go_simp):p:=h
theorem zY{p:Prop}(h:p:=by rw[<-hZ];rfl):p:=h
theorem zZ{p:Prop}(h:p:=by rw[show zs.toArray.size=8 by rw[<-g];rfl];kernel_rfl):p:=h
theorem Waa{p:Prop}(h:p:=by rw[<-L,<-af.out];show (wr.alloc _).heap.size=_;simp):p:=h
theorem Wab{p:Prop}(h:p:=by have:=a.size;omega):p:=h
theorem Wac{p:Prop}(h:p:=by rw[br.out,F.out];rfl):p:=h
theorem Wad{p:Prop}(h:p:=by rw[D.out];exact c.1):p:=h
abbrev Oz:=@underlying39
abbrev Pa:=@AllReadyH.cons
abbrev Pb:=@AllReadyH.nil
abbrev Pc:=@wpAnyH_ready
abbrev Pd:=@wpAnyH_done
abbrev Pe:=@List.mem_flatMap
abbrev Pf:=@wp_region_held_drew
abbrev Pg:=@wp_store_row
abbrev Ph:=@Nat.lt_succ_self
abbrev Pj:=@getElem!_pos
theorem Qoz (H:Bool)(i:Nat)(I Q:Int):(if H then decide (i≠0/\0<=I/\I<=3/\1<=Q/\Q<=31) else decide (I=0/\Q=0))=MA (i:Int) H I Q:=by
 unfold MA;cases H
 ·rfl
 ·rw[Bb rfl,Bb rfl];simp
def QP (w:A5)(inter:Bool):Prop:=∀(c:Cel) (p:Nat->Option Addr) (n k:Nat->Nat) (x:A5),Below w.heap.size w x->IF x c p n->
 A9 prog 82 #[.bool inter,.agg (AD c fun i=>.slice (p i) (n i) (k i)).toArray] x fun e y=>e=.returned (.bool (CC inter c))/\Below x.heap.size x y
theorem QP.below {w x:A5}{inter:Bool}(h:QP w inter)(a:Below w.heap.size w x):QP x inter:=
 fun c p n k y b hc=>h c p n k y (a.trans (b.mono a.size)) hc
set_option maxRecDepth 100000 in
theorem Qhh (S:ShP)(p b:Option Addr)(ca cb i:Nat)(w:A5)(hi:i<S.rows.length)(hn:S.rows.length<=maxLen)(hr:HU w b S.rows)(hc:∀c∈S.rows[i].cels,∀k,k<6->(c.ev k).length<=1048576)(hR:QP w S.hd.inter):
  A9 prog 46 #[.agg (AU S.hd (.slice p S.hd.supp.length ca) (.slice b S.rows.length cb) S.zeros).toArray,.int .i64 (i:Int)] w fun e w'=>e=.returned (.bool (FJ S.hd.inter (BN S.hd.fmt) i S.rows[i]))/\Below w.heap.size w w':=by
 unfold maxLen at hn;obtain⟨W,X,rfl,bj,Z⟩:=QG hr sX;obtain⟨r,cap,hq,D,l,E⟩:=Z i hi;clear Z hr;have cE:=fun x=>dU S.hd (.slice p S.hd.supp.length ca) (.slice (some ⟨W,X,none⟩) S.rows.length cb) S.zeros x;generalize S.rows[i]=R at hc D l E ⊢;generalize S.rows.length=n at hi hn cE ⊢;obtain⟨H,I,Q,m⟩:=R;dsimp only at *;obtain⟨zs,hZ⟩:=Ah (AU S.hd (.slice p S.hd.supp.length ca) (.slice (some ⟨W,X,none⟩) n cb) S.zeros);have z6:zs[6]? =some (.slice (some ⟨W,X,none⟩) n cb):=zY;have z3:zs[3]? =some (.bool S.hd.inter):=zY;have ax:(prog.info? 78).map (·.size)=some zs.toArray.size:=zW;rw[hZ] at cE ⊢;clear hZ;have bk:=PK S.hd.fmt;generalize BN S.hd.fmt=N at *;generalize S.hd.inter=inter at *;obtain⟨rs,g⟩:=Ah ([Value.bool H,.int .i64 I,.int .i64 Q,.slice r m.length cap]);have r3:rs[3]? =some (.slice r m.length cap):=by rw[<-g];rfl
 have rl:rs.length=4:=by rw[<-g];rfl
 have ro:rs.toArray.all (·.oneCell')=true:=by rw[<-g];simp[Value.oneCell']
 have cH:=fun x=>Qb0 (i:Int) sX H I Q (.slice r m.length cap) x;rw[show (#[Value.bool H,.int .i64 I,.int .i64 Q,.slice r m.length cap]:Array A0)=rs.toArray by rw[<-g]] at cH;have o:∀x,Below w.heap.size w x->x.rangeAt W (X+i*4) rs:=fun x a k v hk=>by
  obtain⟨a0,a1,a2,a3⟩:=E x a;rw[<-g] at hk
  match k,hk with
  |0,hk=>injection hk with hk;subst hk;exact a0
  |1,hk=>injection hk with hk;subst hk;exact a1
  |2,hk=>injection hk with hk;subst hk;exact a2
  |3,hk=>injection hk with hk;subst hk;exact a3
 clear E g;obtain⟨bd,aa,bl⟩:=RF;obtain⟨Y,ay,bm⟩:=NX;obtain⟨B,wA,d,hB,J,ab,ac,ad,L,M,ae⟩:=JT w (.cells zs.toArray 78 (0,0)) (.cells rs.toArray 46 (0,0));have af:Below w.heap.size w wA:=by rw[<-J];exact(Dn _ w).alloc (B9 _) _
 have ag:=o wA af;have U:Hid (∀x,Below (B+2) d x->x.cell? ⟨B,3,none⟩=some (.bool inter)/\x.cell? ⟨B+1,3,none⟩=some (.slice r m.length cap)/\Below w.heap.size w x):=Dm fun x a=>by
  have h1:=(a.block B sX).trans L;have h2:=(a.block (B+1) sX).trans M;exact⟨AA h1 z3,AA h2 r3,by rw[hB];exact ae.trans (a.mono (by omega))⟩
 have bn:=Dm (fun(x:A5) (a:Below (B+2) d x)=>(a.block B sX).trans L);have bf:=Dm (fun(x:A5) (a:Below (B+2) d x)=>(a.block (B+1) sX).trans M);have K:∀(x y:A5),Below (B+2) d x->Below x.heap.size x y->Below (B+2) d y:=fun x y a hy=>a.trans (hy.mono Wab);have bg:=Dm (fun(x:A5) (a:Below (B+2) d x)=>((cH x).mono fun e y h=>⟨h.1,K x y a h.2⟩:A9 prog 80 #[.int .i64 (i:Int),.agg rs.toArray] x fun e y=>e=.returned (.bool (MA (i:Int) H I Q))/\Below (B+2) d y));have bo:=Dm (fun(x:A5) (a:Below (B+2) d x)=>((cE x).mono fun e y h=>⟨h.1,K x y a h.2⟩:A9 prog 81 #[.agg zs.toArray] x fun e y=>e=.returned (.int .i64 N)/\Below (B+2) d y));have O:(prog.info? 46).map (·.size)=some rs.toArray.size:=by rw[show rs.toArray.size=4 from rl];kernel_rfl
 have az:bd.size=rs.toArray.size:=by rw[aa];exact rl.symm
 have t1:decide ((i:Int)<(n:Int))=true:=sU;have ah:Below (B+2) d d:=Dn _ _;have a4:=Dm J;have a5:=Dm ab;have ai:=Dm hB;have bh:=Dm ad;have a6:=Dm ac;have bv:=Dm D;have aj:=Dm l;have a7:=Dm hR;have bp:=Dm K;unfold FJ;dsimp only;rw[Qoz];generalize MA (i:Int) H I Q=G at *;clear J ab hB ac ad L M ae af z3 r3 o cE cH l hR D K
 go_enter func46,ntmps46
 go_wp2_with (first|(rw[a4.out,ai.out];with_reducible refine Z2 rfl _ rfl W (X+i*4) rfl rs ag rl ?_)|(with_reducible refine BL rfl 46 _ _ rfl rs.toArray bd 46 rfl rfl O az ro ?_;rw[a5.out,a6.out]))
 cases G with
 |false=>
  refine E1 (S:=fun x=>Below (B+2) d x) 12 tN tN ah.drew ?_;simp only[Dq,Bk,Gp,Gq];refine AQ ?_;simp only[A1];refine NG 46 _ (B+1) 46 rs.toArray (0,0) _ tN rfl rfl (fun x a=>bf.out x a) Ip rfl O ?_;simp only[A1];refine C2 tN bg.out (fun _=>tN) ?_;simp only[A1]
  iterate 2 (refine AQ ?_;simp only[A1])
  iterate 6 (refine GB tN ?_;simp only[A1])
  refine AQ ?_;simp only[A1];refine DX fun x a=>?_;have V:=(U.out x a).2.2
  go_wp2
  go_ret
  exact⟨AJ (by rw[Kq,Gv]),by first|exact V|(rw[<-ai.out];exact V)⟩
 |true=>
 refine E1 (S:=fun x=>Below (B+2) d x) 12 tN tN ah.drew ?_;simp only[Dq,Bk,Gp,Gq];refine AQ ?_;simp only[A1];refine NG 46 _ (B+1) 46 rs.toArray (0,0) _ tN rfl rfl (fun x a=>bf.out x a) Ip rfl O ?_;simp only[A1];refine C2 tN bg.out (fun _=>tN) ?_;simp only[A1]
 iterate 3 (refine AQ ?_;simp only[A1])
 refine B4 44 _ ⟨(B+1),3,none⟩ (.slice r m.length cap) tN rfl rfl (fun x a=>by have c0:=(U.out x a).2.1;go_simp) ?_;simp only[A1];refine AQ ?_;simp only[A1];refine NG 78 _ B 78 zs.toArray (0,0) _ tN rfl rfl (fun x a=>bn.out x a) Ou rfl ax ?_;simp only[A1];refine C2 tN bo.out (fun _=>tN) ?_;simp only[A1]
 iterate 2 (refine AQ ?_;simp only[A1])
 refine DX fun x a=>?_;obtain⟨-,k3,V⟩:=U.out x a;by_cases e0:(m.length:Int)=N
 case neg=>
  have t0:((m.length:Int) != N)=true:=by rw[Fj];exact e0
  have F:=Dm (Gl e0);clear e0
  go_wp2
  go_ret
  exact⟨AJ vH,by first|exact V|(rw[<-ai.out];exact V)⟩
 have t0:((m.length:Int) != N)=false:=by rw[e0];simp
 have F:=Dm (Gm e0);have bq:m.length<=10000:=sX;clear e0;rw[t0]
 go_wp2
 clear k3 t0
 go_loopw [28] (fun z wr=>∃j:Nat,z=.int .i64 (j:Int)/\j<=m.length/\Hid ((m.take j).all (CC inter)=true)/\Below (B+2) d wr) (fun z _=>m.length-(intOf z).toNat)
 case atStart=>exact⟨0,rfl,Do _,Dm rfl,a⟩
 case round=>
  clear a V;obtain⟨j,rfl,hj,ha,hb⟩:=hrel;obtain⟨-,-,P⟩:=U.out wr hb;by_cases t:j<m.length
  ·have t1:decide ((j:Int)<(m.length:Int))=true:=sU;obtain⟨b2,o2,rfl,br,ak⟩:=EE.each aj.out sX;obtain⟨vs,hV,al⟩:=ak j t;have q:=hV.shape.1;have am:=SL hV;obtain⟨p3,an,ao,-,ap⟩:=hV;have o:wr.rangeAt b2 (o2+j*18) vs:=fun k v hk=>al wr P k v hk;have a8:=Dm (fun h=>nT t ha.out (f:=CC inter) h);have a9:=Dm (fun h=>Qjo (f:=CC inter) t h);obtain⟨wC,s⟩:=Ah (wr.alloc (.cells vs.toArray 77 (0,0)));obtain⟨C,hC⟩:=Ah wr.heap.size;have aq:wC.heap[C]? =some (.cells vs.toArray 77 (0,0)):=by rw[<-s,<-hC];exact heap_alloc_new wr _
   have u:Below (B+2) d wC:=by rw[<-s];exact hb.alloc (by have:=hb.size;have:=bh.out;omega) _
   obtain⟨k3,-,T⟩:=U.out wC u;have ar:wC.heap.size=C+1:=by rw[<-s,<-hC];simp
   have au:(prog.info? 77).map (·.size)=some vs.toArray.size:=by rw[show vs.toArray.size=18 from q];kernel_rfl
   have ba:Y.size=vs.toArray.size:=by rw[ay];exact q.symm
   have bi:=a7.out m[j] p3 (fun i=>(m[j].ev i).length) an wC T (fun i hi=>⟨rfl,hc _ (Bl t) i hi,(ap i hi).2.below T⟩);rw[<-ao] at bi;have bb:=Dm s;have bs:=Dm ar;have bt:=Dm hC;clear ao al ak ha s ar ap hC;generalize CC inter m[j]=y at *
   go_wp2_with (first|(with_reducible refine Ur rfl _ rfl b2 (o2+j*18) rfl vs o q ?_)|(with_reducible refine BL rfl 77 _ _ rfl vs.toArray Y 77 rfl rfl au ba am ?_;rw[bb.out])|(rw[bt.out];with_reducible refine Nk rfl 77 _ rfl C rfl 77 vs.toArray (0,0) _ aq Io rfl au ?_))
   refine bi.mono ?_;rintro e w2 ⟨rfl,A⟩;have av:Below (B+2) d w2:=u.trans (A.mono (by have:=u.size;have:=bh.out;omega));have aw:=(U.out w2 av).2.2;clear A aq o u k3 T;cases y with
   |true=>
    have bc:=Dm (a8.out rfl);clear a8 a9
    go_wp2
    go_roundw
    case rel=>exact⟨j+1,tP,sX,bc,av⟩
    case measure=>simp[intOf];omega
   |false=>
    have bc:=Dm (a9.out rfl);clear a8 a9
    go_wp2
    go_ret
    exact⟨AJ (by rw[F.out,bc.out];rfl),by first|exact aw|(rw[<-ai.out];exact aw)⟩
  ·obtain rfl:m.length=j:=sX;have t1:decide ((m.length:Int)<(m.length:Int))=false:=sV;have bu:=Dm (show m.all (CC inter)=true by have:=ha.out;rwa [Il] at this)
   go_wp2
   go_ret
   exact⟨AJ (by rw[F.out,bu.out];rfl),by first|exact P|(rw[<-ai.out];exact P)⟩
theorem XK {w x:A5}{b N:Nat}(h:w.grownBy x (some b))(a:N<=b)(c:N<=w.heap.size):Below N w x:=
 ⟨h.os,h.tape,h.output,h.size,fun k hk=>h.block k sX (fun e=>vF)⟩
def ON (h:Shd)(z:Int)(n:Nat):Bool:=GG h&&(decide (0<=z)&&(decide (z<=262144)&&((n:Int)==BE h.fmt)))
set_option maxRecDepth 100000 in
theorem Y6j (h:Shd)(p b:Option Addr)(ca cb n:Nat)(z:Int)(w:A5)(hl:h.supp.length<=maxLen)(hs:BO w p h.supp):
  A9 prog 44 #[.agg (AU h (.slice p h.supp.length ca) (.slice b n cb) z).toArray] w fun e T=>e=.returned (.bool (ON h z n))/\Below w.heap.size w T:=by
 have f:=fun x a (d:Below w.heap.size w x) (hm:GG h=false)=>Qmo a h p ca (.slice b n cb) z hl x (hs.below d) hm;have l:=fun(x:A5) (d:Below w.heap.size w x) (hm:GG h=true)=>Zq (x.alloc HD) (x.heap.size+1) x.heap.size [] h p ca (.slice b n cb) z (fun y U=>hs.below (d.trans ((((Dn _ x).alloc (B9 _) HD).trans (XK U (B9 _) sV)).mono d.size))) hm (AN.fresh rfl (Ph _)) sV sV;obtain⟨zs,r⟩:=Ah (AU h (.slice p h.supp.length ca) (.slice b n cb) z);have z2:zs[2]? =some (.int .i64 h.fmt):=by rw[<-r];rfl
 have V:zs[6]? =some (.slice b n cb):=by rw[<-r];rfl
 have t:zs[7]? =some (.int .i64 z):=by rw[<-r];rfl
 have H:(prog.info? 78).map (·.size)=some zs.toArray.size:=by rw[show zs.toArray.size=8 by rw[<-r];rfl];kernel_rfl
 simp only[r] at f l ⊢;obtain⟨B,m⟩:=Ah w.heap.size;obtain⟨s,g⟩:=Ah (w.alloc (.cells zs.toArray 78 (0,0)));have u:s.heap[B]? =some (.cells zs.toArray 78 (0,0)):=by rw[<-g,<-m];exact heap_alloc_new w _
 have I:Below B w s:=by rw[<-m,<-g];exact(Dn _ w).alloc (B9 _) _
 have W:s.heap.size=B+1:=by rw[<-g,<-m];simp
 obtain⟨ev,j⟩:∃ev:Int,(if GG h=true then 0 else 12)=ev:=⟨_,rfl⟩;have A:Hid (∀x,(Below B w x/\x.heap[B]? =some (.cells zs.toArray 78 (0,0)))->A9 prog 71 #[.pointer (some ⟨x.heap.size,0,none⟩),.agg zs.toArray] (x.alloc HD) fun e y=>e=.returned (.int .i64 ev)/\Below B w y/\y.heap[B]? =some (.cells zs.toArray 78 (0,0))):=Dm (by
  intro x d;have J:B<x.heap.size:=(Am.1 d.2).1;have k:∀y,Below x.heap.size x y->Below B w y/\y.heap[B]? =some (.cells zs.toArray 78 (0,0)):=fun y h3=>⟨d.1.trans (h3.mono sX),(h3.block B J).trans d.2⟩;have o:Below x.heap.size x (x.alloc HD):=(Dn _ x).alloc (B9 _) HD;cases hm:GG h with
  |false=>
   refine(f (x.alloc HD) ⟨x.heap.size,0,none⟩ (by rw[m];exact d.1.trans (o.mono (by omega))) hm).mono ?_;rintro e y ⟨rfl,h2⟩;exact⟨by rw[<-j,hm];rfl,k y (o.trans (h2.mono sV))⟩
  |true=>
   refine(l x (by rw[m];exact d.1) hm).mono ?_;rintro e y ⟨rfl,_,hg⟩;exact⟨by rw[<-j,hm];rfl,k y (o.trans (XK hg (B9 _) sV))⟩)
 have C:Hid (∀b,GG h=b->(ev==0)=b):=Dm (by intro b X;rw[<-j,X];cases b <;> rfl);have c2:=fun w=>SP h.fmt w;have Y:=Dm g;have D:=Dm m;have L:Below B w s.drew/\s.drew.heap[B]? =some (.cells zs.toArray 78 (0,0)):=⟨I.drew,u⟩;clear r g m f l j u hs;unfold ON;generalize GG h=sm at *;generalize h.fmt=E at *;generalize BQ E=aa at *;obtain⟨Z,q⟩:=Ah (BE E);rw[q];simp only[q] at c2;clear q;have F:=C.out sm rfl;clear C;obtain⟨d2,h2⟩:=Ah (decide (0<=z));obtain⟨d3,h3⟩:=Ah (decide (z<=262144));rw[h2,h3];obtain⟨d4,h4⟩:=Ah (((n:Int)==Z));rw[h4];have M:sm=false\/(sm=true/\d2=false)\/(sm=true/\d2=true/\d3=false)\/(sm=true/\d2=true/\d3=true):=by
  clear F h2 h3 h4;cases sm <;> cases d2 <;> cases d3 <;> simp
 go_enter func44,ntmps44
 go_wp2_with fail
 refine(c2 _).mono ?_;rintro e w1 ⟨rfl,rfl⟩
 go_wp2
 rw[Y.out,D.out];refine Pf (S:=fun x=>Below B w x/\x.heap[B]? =some (.cells zs.toArray 78 (0,0))) tN L (fun c=>?_);refine BY 1 (some 12) (v:=.agg zs.toArray) rfl rfl tN tN tN Wbr c (Or.inl ⟨tN,fun x d=>FW (ty:=78) (x:=.tmp 1) (ad:=⟨B,0,none⟩) tN tN (Aq x (B) _ _ zs.toArray (0,0) _ (d.2) Ou rfl H)⟩) ?_
 try simp only[A1]
 refine Pc (rs:=[0]) tN sV ?_;refine Pa rfl (fun K G=>?_) Pb
 go_simp
 go_wp2_with fail
 obtain⟨R,N⟩:=Ah s.drew;rw[N] at c ⊢;have O:B<R.heap.size:=(Am.1 c.2).1;have hX:=c;refine(Sd _).mono ?_;rintro e w2 ⟨rfl,rfl⟩;refine G.out _ _ (⟨c.1.alloc (Nat.le_of_lt O) _,BM c.2⟩) (fun i=>?_);clear G K c;have c:=i;clear i
 try simp only[A1]
 refine Pc (rs:=[2]) tN sV ?_;refine Pa rfl (fun K G=>?_) Pb
 go_simp
 go_wp2_with fail
 refine(A.out R hX).mono ?_;rintro e w3 ⟨rfl,P,Q⟩;refine G.out _ _ (⟨P,Q⟩) (fun i=>?_);clear G K c;have c:=i;clear i
 try simp only[A1]
 rcases M with rfl|⟨rfl,rfl⟩|⟨rfl,rfl,rfl⟩|⟨rfl,rfl,rfl⟩
 ·refine BY 3 (some 14) (v:=?_) rfl rfl tN tN tN Wbr c (Or.inl ⟨tN,?_⟩) ?_
  rotate_left
  ·(intro x _;go_simp;try with_reducible rfl)
  rotate_right
  try simp only[A1]
  refine AC 4 (some 15) c ?_
  try simp only[A1]
  refine BY 5 (some 16) (v:=undef) rfl rfl tN tN tN Wbr c (Or.inr ⟨tN,rfl⟩) ?_
  try simp only[A1]
  refine BY 6 (some 17) (v:=undef) rfl rfl tN tN tN Wbr c (Or.inr ⟨tN,rfl⟩) ?_
  try simp only[A1]
  refine BY 7 (some 18) (v:=undef) rfl rfl tN tN tN Wbr c (Or.inr ⟨tN,rfl⟩) ?_
  exact Wfm
 ·refine BY 3 (some 14) (v:=?_) rfl rfl tN tN tN Wbr c (Or.inl ⟨tN,?_⟩) ?_
  rotate_left
  ·(intro x _;go_simp;try with_reducible rfl)
  rotate_right
  try simp only[A1]
  refine AC 4 (some 15) c ?_
  try simp only[A1]
  refine AC 5 (some 16) c ?_
  try simp only[A1]
  refine B2 6 (some 17) (v:=.int .i64 z) rfl rfl c tN (fun x d=>zX) ?_
  try simp only[A1]
  refine AC 7 (some 18) c ?_
  exact Wfm
 ·refine BY 3 (some 14) (v:=?_) rfl rfl tN tN tN Wbr c (Or.inl ⟨tN,?_⟩) ?_
  rotate_left
  ·(intro x _;go_simp;try with_reducible rfl)
  rotate_right
  try simp only[A1]
  refine AC 4 (some 15) c ?_
  try simp only[A1]
  refine AC 5 (some 16) c ?_
  try simp only[A1]
  refine B2 6 (some 17) (v:=.int .i64 z) rfl rfl c tN (fun x d=>zX) ?_
  try simp only[A1]
  refine AC 7 (some 18) c ?_
  try simp only[A1]
  refine AC 8 (some 19) c ?_
  try simp only[A1]
  refine AC 9 (some 20) c ?_
  try simp only[A1]
  refine AC 10 (some 21) c ?_
  try simp only[A1]
  refine B2 11 (some 22) (v:=.int .i64 z) rfl rfl c tN (fun x d=>zX) ?_
  try simp only[A1]
  refine AC 12 (some 23) c ?_
  exact Wfl
 ·refine BY 3 (some 14) (v:=?_) rfl rfl tN tN tN Wbr c (Or.inl ⟨tN,?_⟩) ?_
  rotate_left
  ·(intro x _;go_simp;try with_reducible rfl)
  rotate_right
  try simp only[A1]
  refine AC 4 (some 15) c ?_
  try simp only[A1]
  refine AC 5 (some 16) c ?_
  try simp only[A1]
  refine B2 6 (some 17) (v:=.int .i64 z) rfl rfl c tN (fun x d=>zX) ?_
  try simp only[A1]
  refine AC 7 (some 18) c ?_
  try simp only[A1]
  refine AC 8 (some 19) c ?_
  try simp only[A1]
  refine AC 9 (some 20) c ?_
  try simp only[A1]
  refine AC 10 (some 21) c ?_
  try simp only[A1]
  refine B2 11 (some 22) (v:=.int .i64 z) rfl rfl c tN (fun x d=>zX) ?_
  try simp only[A1]
  refine AC 12 (some 23) c ?_
  try simp only[A1]
  refine AC 13 (some 24) c ?_
  try simp only[A1]
  refine AC 14 (some 25) c ?_
  try simp only[A1]
  refine AC 15 (some 26) c ?_
  try simp only[A1]
  refine B2 16 (some 27) (v:=.slice b n cb) rfl rfl c tN (fun x d=>by have c0:=AA d.2 V;go_simp) ?_
  try simp only[A1]
  refine AC 17 (some 28) c ?_
  try simp only[A1]
  refine AC 18 (some 29) c ?_
  try simp only[A1]
  refine AC 19 (some 30) c ?_
  try simp only[A1]
  refine AC 20 (some 31) c ?_
  try simp only[A1]
  refine AC 21 (some 2) c ?_
  try simp only[A1]
  refine Pd tN ?_ _
  go_wp2
  go_ret
  exact⟨AJ vA,Wad⟩
theorem ZD {α:Type}{f g:Nat->α->Bool}:∀(s:Nat) (l:List α),(∀n,∀a∈l,f n a=g n a)->AV f s l=AV g s l
 |_,[],_=>rfl
 |s,a::l,h=>by rw[AV,AV,h s a Ez,ZD (s+1) l fun n b c=>h n b (Ey _ c)]
theorem Zu {f:Nat->Cel->Bool}{N:Nat}:∀(s:Nat) (l:List RowP),(∀r∈l,r.cels.length=N)->AV f (s*N) (l.flatMap (·.cels))=AV (fun i (r:RowP)=>AV f (i*N) r.cels) s l
 |_,[],_=>rfl
 |s,r::l,h=>by
  rw[Gc,Tk,h r Ez,AV,<-Zu (s+1) l fun x a=>h x (Ey _ a),Cz,Nat.one_mul]
theorem sR {inter:Bool}{c:Cel}(h:CC inter c=true):AG c.kind = !NA c:=by
 unfold CC at h;rw[Al] at h;have h2:=h.2;unfold NA;cases hs:c.skip with
 |true=>
  rw[hs,Bb rfl,Al] at h2;have h3:=h2.2;unfold JY at h3;simp only[Al,Bj] at h3;rw[h3.1.1.1]
  rfl
 |false=>
  rw[hs,Ba sY] at h2;simp only[Al] at h2;have h3:=h2.1.1;unfold IJ at h3;have h4:c.kind=3\/c.kind=4\/c.kind=0\/c.kind=1:=by
   simp only[B6,Al,Bj] at h3;omega
  rcases h4 with e|e|e|e <;> (rw[e];rfl)
theorem ZP (S:ShP):HE S=(ON S.hd S.zeros S.rows.length&&AV (FJ S.hd.inter (BN S.hd.fmt)) 0 S.rows):=by
 unfold HE ON;rw[show decide (0<=S.zeros/\S.zeros<=262144)=(decide (0<=S.zeros)&&decide (S.zeros<=262144)) by rw[I7];simp,
  show decide ((S.rows.length:Int)=BE S.hd.fmt)=((S.rows.length:Int)==BE S.hd.fmt) by rw[I7];simp]
 simp only[Lr]
theorem YE {S:ShP}(h:HE S=true):S.rows.length<=1000/\∃N:Nat,(0<S.rows.length->BN S.hd.fmt=(N:Int))/\(∀r∈S.rows,r.cels.length=N)/\∀c∈FA S,CC S.hd.inter c=true:=by
 rw[ZP,Al] at h;obtain⟨h1,h2⟩:=h;have a:∀r∈S.rows,(r.cels.length:Int)=BN S.hd.fmt/\r.cels.all (CC S.hd.inter)=true:=fun r hr=>by
  obtain⟨i,hi,rfl⟩:=List.mem_iff_getElem.1 hr;have h3:=OQ.1 h2 i hi;unfold FJ at h3;simp only[Al,Fg] at h3;exact⟨h3.1,h3.2.2⟩
 refine⟨?_,(BN S.hd.fmt).toNat,fun b=>?_,fun r hr=>?_,fun c hc=>?_⟩
 ·unfold ON at h1;simp only[Al,Bj] at h1;have h4:=h1.2.2.2;rcases KD S.hd.fmt with e|e|e|e|e|e|⟨_,e⟩
  case _|_|_|_|_|_=>
   rw[e] at h4;have d:(S.rows.length:Int)<=1000:=by rw[h4];decide +kernel
   omega
  unfold BE at h4;rw[e] at h4;have d:(S.rows.length:Int)=0:=h4;omega
 ·have:=(a _ (Bl b)).1;omega
 ·have:=(a r hr).1;omega
 ·obtain⟨r,hr,hc⟩:=Pe.1 hc;exact Bw.1 (a r hr).2 c hc
theorem Y30 {S:ShP}(h:HE S=true){N:Nat}(a:∀r∈S.rows,r.cels.length=N):AV (D0 S.hd.fmt) 0 (FA S)=AV (fun i (r:RowP)=>AV (IB S.hd.fmt) (i*N) r.cels) 0 S.rows:=by
 obtain⟨-,-,-,-,h1⟩:=YE h;rw[<-Zu 0 S.rows a,Cg];refine ZD 0 _ fun n c hc=>?_;unfold D0 IB;rw[sR (h1 c hc)]
theorem SN {α:Type}[Inhabited α]{f:Nat->α->Bool}{l:List α}{n:Nat}(hn:l.length=n):((∀i,i<n->f i (l[i]!)=true)->AV f 0 l=true)/\∀i,i<n->f i (l[i]!)=false->AV f 0 l=false:=by
 subst hn;refine⟨fun h=>OQ.2 fun j hj=>?_,fun i hi h=>?_⟩
 ·have:=h j hj;rw[Pj l j hj] at this;rwa [Ar]
 ·rw[Pj l i hi] at h;exact iM hi h
theorem eT {f : FuncId} {fn : Func} {c : Code} (hf : prog.funcs[f]? = some fn) (hname : (fn.name == "runtime.NumGoroutine") = false) (hb : fn.body = some c) (args : Array Value) (w : World) : (callFunc f args).run prog w = .ok (.enter f args) w := by
 have h1 : fn.name ≠ "runtime.NumGoroutine" := by simpa using hname
 simp[callFunc,hf,h1,hb]
theorem Qb9:∀args x,(callFunc 46 args).run prog x=.ok (.enter 46 args) x:=eT func46 tN rfl
theorem rB:∀args x,(callFunc 47 args).run prog x=.ok (.enter 47 args) x:=eT func47 tN rfl
theorem Y6n:∃Y:Array A0,Y.size=8/\∀w,(zeroValue 78).run prog w=.ok (.agg Y) w:=⟨#[.int .i64 0,.int .i64 0,.int .i64 0,.bool false,.int .i64 0,.slice none 0 0,.slice none 0 0,.int .i64 0],rfl,KL tN⟩
set_option maxRecDepth 100000 in
theorem mY (S:ShP)(p b:Option Addr)(ca cb:Nat)(w:A5)(hl:S.hd.supp.length<=maxLen)(hn:S.rows.length<=4611686018427387904)(hs:BO w p S.hd.supp)(hr:HU w b S.rows)(hc:∀c∈FA S,∀k,k<6->(c.ev k).length<=1048576)(hR:QP w S.hd.inter):
  A9 prog 20 #[.agg (AU S.hd (.slice p S.hd.supp.length ca) (.slice b S.rows.length cb) S.zeros).toArray] w fun e w'=>e=.returned (.int .i64 (DG S))/\Below w.heap.size w w':=by
 have n1:∀i (h:i<S.rows.length),∀c∈S.rows[i].cels,c∈FA S:=fun i h c hc=>Pe.2 ⟨_,Bl h,hc⟩;obtain⟨zs,g⟩:=Ah (AU S.hd (.slice p S.hd.supp.length ca) (.slice b S.rows.length cb) S.zeros);have z6:zs[6]? =some (.slice b S.rows.length cb):=by rw[<-g];rfl
 have z:zs.toArray.all (·.oneCell')=true:=by rw[<-g];exact OI ..
 have j:(prog.info? 78).map (·.size)=some zs.toArray.size:=zZ;have W:(prog.info? 39).map (·.size)=some zs.toArray.size:=zZ;obtain⟨Y,X,al⟩:=Y6n;have Z:Y.size=zs.toArray.size:=by rw[X,<-g];rfl
 have am:∀(fn:Fn) (first cap:Array A0) (w:A5),(Instr.makeFunc fn first cap).run prog w=.ok (.func fn first cap) w:=fun _ _ _ _=>rfl;obtain⟨B,wA,d,T,s,A,C,aa,D,F,G⟩:=JT w (.cells zs.toArray 39 (0,0)) (.cells zs.toArray 78 (0,0));have H:wA.heap[B]? =some (.cells zs.toArray 39 (0,0)):=by rw[<-s,<-T];exact heap_alloc_new w _
 have t:∀x,Below (B+2) d x->Below w.heap.size w x:=fun x a=>by rw[T];exact G.trans (a.mono (by omega))
 have U:Hid (∀x,Below (B+2) d x->x.heap[B+1]? =some (.cells zs.toArray 78 (0,0))/\x.cell? ⟨B,6,none⟩=some (.slice b S.rows.length cb)/\Below w.heap.size w x):=Dm fun x a=>
  ⟨(a.block (B+1) sX).trans F,AA ((a.block B sX).trans D) z6,t x a⟩
 have V:∀(x y:A5),Below (B+2) d x->Below x.heap.size x y->Below (B+2) d y:=fun x y a I=>a.trans (I.mono Wab);have an:=Dm (fun(x:A5) (a:Below (B+2) d x)=>(by
  rw[<-g];exact(Y6j S.hd p b ca cb S.rows.length S.zeros x hl (hs.below (t x a))).mono fun e y h=>⟨h.1,V x y a h.2⟩:A9 prog 44 #[.agg zs.toArray] x fun e y=>e=.returned (.bool (ON S.hd S.zeros S.rows.length))/\Below (B+2) d y))
 have ao:=Dm (fun(x:A5) (a:Below (B+2) d x)=>((dN 46 zs.toArray S.rows.length (fun i=>FJ S.hd.inter (BN S.hd.fmt) i (S.rows[i]!)) (AV (FJ S.hd.inter (BN S.hd.fmt)) 0 S.rows) x hn Qb9
  (fun i hi _ y I=>by
   have m:=(t x a).trans (I.mono (t x a).size);rw[Pj S.rows i hi,<-g];exact Qhh S p b ca cb i y hi tK (hr.below m) (fun c h k hk=>hc c (n1 i hi c h) k hk) (hR.below m))
  (SN rfl).1 (SN rfl).2).mono fun e y h=>⟨h.1,V x y a h.2⟩:A9 prog 45 #[.int .i64 (S.rows.length:Int),.func (.func 46) #[.agg zs.toArray] #[]] x fun e y=>e=.returned (.bool (AV (FJ S.hd.inter (BN S.hd.fmt)) 0 S.rows))/\Below (B+2) d y))
 have ap:=Dm (fun(hT:HE S=true) (x:A5) (a:Below (B+2) d x)=>(by
  obtain⟨hm,N,hN,J,-⟩:=YE hT;rw[Y30 hT J];exact(dN 47 zs.toArray S.rows.length (fun i=>AV (IB S.hd.fmt) (i*N) (S.rows[i]!).cels) (AV (fun i (r:RowP)=>AV (IB S.hd.fmt) (i*N) r.cels) 0 S.rows) x hn rB
   (fun i hi _ y I=>by
    have m:=(t x a).trans (I.mono (t x a).size);rw[Pj S.rows i hi,<-g];exact Qhj S p b ca cb i N y hi hm (hN sX) (J _ (Bl hi)) (hr.below m))
   (SN (f:=fun i (r:RowP)=>AV (IB S.hd.fmt) (i*N) r.cels) (l:=S.rows) rfl).1 (SN (f:=fun i (r:RowP)=>AV (IB S.hd.fmt) (i*N) r.cels) (l:=S.rows) rfl).2).mono fun e y h=>⟨h.1,V x y a h.2⟩:A9 prog 45 #[.int .i64 (S.rows.length:Int),.func (.func 47) #[.agg zs.toArray] #[]] x fun e y=>e=.returned (.bool (AV (D0 S.hd.fmt) 0 (FA S)))/\Below (B+2) d y))
 have ai:=Dm (ZP S);have ab:=Dm (fun(h:HE S=false)=>gG h);have aj:=Dm (fun h (h1:AV (D0 S.hd.fmt) 0 (FA S)=false)=>rK h h1);have ak:=Dm (fun h (h1:AV (D0 S.hd.fmt) 0 (FA S)=true)=>Z9 h h1);have K:Below (B+2) d d:=Dn _ _;have ac:=Dm s;have ad:=Dm A;have L:=Dm T;have ae:=Dm C;rw[g];obtain⟨E,hE⟩:=Ah (DG S);rw[hE] at ab aj ak ⊢;clear hE;clear s A T C aa D F G t V z6 g n1 hs hr hc hR hl;generalize S.rows.length=n at *;generalize AV (D0 S.hd.fmt) 0 (FA S)=vm at *;generalize AV (FJ S.hd.inter (BN S.hd.fmt)) 0 S.rows=rm at *;generalize ON S.hd S.zeros n=pm at *;generalize HE S=tr at *
 go_enter func20,ntmps20
 have M:=(U.out _ K).1
 go_wp2_with (first|(rw[ac.out,L.out];with_reducible refine Nk rfl 39 _ rfl B rfl 39 zs.toArray (0,0) _ H Oz rfl W ?_)|(with_reducible refine BL rfl 78 _ _ rfl zs.toArray Y 78 rfl rfl j Z z ?_;rw[ad.out,ae.out])|(with_reducible refine Nk rfl 78 _ rfl (B+1) rfl 78 zs.toArray (0,0) _ M Ou rfl j ?_))
 refine(an.out _ K).mono ?_;rintro e w1 ⟨rfl,O⟩;obtain⟨P,af,u⟩:=U.out w1 O;clear M H;cases pm with
 |false=>
  have v:=Dm (ab.out (by rw[ai.out];rfl))
  go_wp2
  go_ret
  exact⟨by rw[v.out];rfl,by first|exact u|(rw[<-L.out];exact u)⟩
 |true=>
  have o:=Dm (show tr=rm from ai.out)
  go_wp2_with (with_reducible refine OZ tN 78 _ rfl (B+1) rfl 78 zs.toArray (0,0) _ P Ou rfl j ?_)
  refine(ao.out _ O).mono ?_;rintro e w2 ⟨rfl,Q⟩;obtain⟨ag,aq,R⟩:=U.out w2 Q;clear P af u;cases rm with
  |false=>
   have v:=Dm (ab.out o.out)
   go_wp2
   go_ret
   exact⟨by rw[v.out];rfl,by first|exact R|(rw[<-L.out];exact R)⟩
  |true=>
   have c3:=ap.out o.out w2 Q
   go_wp2_with (with_reducible refine Nk rfl 78 _ rfl (B+1) rfl 78 zs.toArray (0,0) _ ag Ou rfl j ?_)
   refine c3.mono ?_;rintro e w3 ⟨rfl,ah⟩;have q:=(U.out w3 ah).2.2;cases vm with
   |false=>
    have v:=Dm (aj.out o.out rfl)
    exact Wfo
   |true=>
    have v:=Dm (ak.out o.out rfl)
    exact Wfo
def pV (N:Nat)(w0:A5)(b c:List A0)(v u:A0)(w:A5):Prop:=∃X a:Nat,v=.pointer (some ⟨X,0,none⟩)/\u=.pointer (some ⟨a,0,none⟩)/\w.heap[X]? =some (.cells b.toArray 46 (0,0))/\w.heap[a]? =some (.cells c.toArray 46 (0,0))/\Below N w0 w
theorem Sx {w w0:A5}{N X b:Nat}{T:TypeId}{Y Z:Array A0}{o:Obj}(h:w.heap[X]? =some (.cells Y T (0,0)))(d:w.heap[b]? =some o)(c:b≠X)(f:Below N w0 w)(i:N<=X)(g:N<=w.heap.size):
  ∃a,w.setRow X Z=a/\a.heap[X]? =some (.cells Z T (0,0))/\a.heap[b]? =some o/\Below N w0 a:=by
 have hg:w.grownBy (w.setRow X Z) (some X):=⟨rfl,rfl,rfl,sV,fun k _ hk=>En _ _ _ _ tX⟩;exact⟨_,rfl,Es _ _ _ _ _ _ h,(En _ _ _ _ c).trans d,f.grown hg g (fun k hk=>vW)⟩
set_option maxRecDepth 100000 in
theorem lQ (S o:ShP)(p b p' b':Option Addr)(ca cb bb ad:Nat)(w:A5)(hl:S.hd.supp.length<=maxLen)(hn:S.rows.length<=maxLen)(hs:BO w p S.hd.supp)(bs:BO w p' o.hd.supp)(hr:HU w b S.rows)(bt:HU w b' o.rows)
  (hc:∀c∈FA S,∀k,k<6->(c.ev k).length<=1048576)(bu:∀c∈FA o,∀k,k<6->(c.ev k).length<=1048576):
  A9 prog 26 #[.agg (AU S.hd (.slice p S.hd.supp.length ca) (.slice b S.rows.length cb) S.zeros).toArray,.agg (AU o.hd (.slice p' o.hd.supp.length bb) (.slice b' o.rows.length ad) o.zeros).toArray] w fun e w'=>e=.returned (.bool (shB S o))/\Below w.heap.size w w':=by
 have bv:∀r∈S.rows,∀c∈r.cels,∀k,k<6->(c.ev k).length<=1048576:=fun r h c h2=>hc c (Pe.2 ⟨r,h,h2⟩);have a4:∀r∈o.rows,∀c∈r.cels,∀k,k<6->(c.ev k).length<=1048576:=fun r h c h2=>bu c (Pe.2 ⟨r,h,h2⟩);have hD:=fun x (a:Below w.heap.size w x)=>Y6k S.hd o.hd p p' ca bb (.slice b S.rows.length cb) (.slice b' o.rows.length ad) S.zeros o.zeros hl x (hs.below a) (bs.below a);unfold maxLen at hn;obtain⟨zs,hZ⟩:=Ah (AU S.hd (.slice p S.hd.supp.length ca) (.slice b S.rows.length cb) S.zeros);obtain⟨ys,hY⟩:=Ah (AU o.hd (.slice p' o.hd.supp.length bb) (.slice b' o.rows.length ad) o.zeros);have z6:zs[6]? =some (.slice b S.rows.length cb):=zY;have z7:zs[7]? =some (.int .i64 S.zeros):=zY;have y6:ys[6]? =some (.slice b' o.rows.length ad):=by rw[<-hY];rfl
 have y7:ys[7]? =some (.int .i64 o.zeros):=by rw[<-hY];rfl
 have cx:(prog.info? 39).map (·.size)=some zs.toArray.size:=zW;have cy:(prog.info? 39).map (·.size)=some ys.toArray.size:=by rw[show ys.toArray.size=8 by rw[<-hY];rfl];kernel_rfl
 rw[hZ,hY];simp only[hZ,hY] at hD;obtain⟨A,wA,O,hA,bw,bx,bz,b0,bc,bd,b3⟩:=JT w (.cells zs.toArray 39 (0,0)) (.cells ys.toArray 39 (0,0));have cz:∀x,Below (A+2) O x->Below w.heap.size w x:=fun x a=>by rw[hA];exact b3.trans (a.mono (by omega))
 have c1:∀(x y:A5),Below (A+2) O x->Below x.heap.size x y->Below (A+2) O y:=fun x y a hy=>a.trans (hy.mono Wab);have ah:Hid (∀x,Below (A+2) O x->(x.cell? ⟨A,6,none⟩=some (.slice b S.rows.length cb)/\x.cell? ⟨A,7,none⟩=some (.int .i64 S.zeros)/\x.cell? ⟨A+1,6,none⟩=some (.slice b' o.rows.length ad)/\x.cell? ⟨A+1,7,none⟩=some (.int .i64 o.zeros))/\Below w.heap.size w x):=Dm fun x a=>by
  have h1:=(a.block A sX).trans bc;have h2:=(a.block (A+1) sX).trans bd;exact⟨⟨AA h1 z6,AA h1 z7,AA h2 y6,AA h2 y7⟩,cz x a⟩
 have dw:=Dm (fun(x:A5) (a:Below (A+2) O x)=>((hD x (cz x a)).mono fun e y h=>⟨h.1,c1 x y a h.2⟩:A9 prog 57 #[.agg zs.toArray,.agg ys.toArray] x fun e y=>e=.returned (.bool (K7 S.hd o.hd))/\Below (A+2) O y));obtain⟨R,hR⟩:=Ah (shB S o);have aa:R=(K7 S.hd o.hd&&(S.zeros==o.zeros&&(decide (S.rows.length=o.rows.length)&&(S.rows.zip o.rows).all fun p=>rwB p.1 p.2))):=hR.symm;rw[hR];have dx:=Dm hr;have dy:=Dm bt;have c2:=Dm bv;have c3:=Dm a4;generalize K7 S.hd o.hd=sd at *;generalize S.zeros=z at *;generalize o.zeros=z' at *;clear hc bu hZ hY;generalize S.rows=l at *;generalize o.rows=m at *;have dz:=Dm c1;have c4:=Dm bw;have c5:=Dm bx;have d0:=Dm hA;have d3:=Dm bz;have q:=Dm b0;have b4:Below (A+2) O O:=Dn _ _;obtain⟨⟨k6,k7,q6,q7⟩,c6⟩:=ah.out _ b4;clear bw bx hA bz b0 b3 cz c1 z6 z7 y6 y7 hs bs hr bt bv a4 hD hR hl
 go_enter func26,ntmps26
 go_wp2_with (first|(rw[c4.out,d0.out,c5.out];with_reducible refine Nk rfl 39 _ rfl A rfl 39 zs.toArray (0,0) _ bc Oz rfl cx ?_)|(with_reducible refine Nk rfl 39 _ rfl (A+1) rfl 39 ys.toArray (0,0) _ bd Oz rfl cy ?_))
 refine(dw.out _ b4).mono ?_;rintro e w1 ⟨rfl,ae⟩;clear k6 k7 q6 q7 c6 bc bd;obtain⟨⟨k6,k7,q6,q7⟩,aq⟩:=ah.out _ ae;cases sd with
 |false=>
  have F:=Dm (show R=false from aa)
  go_wp2
  go_ret
  exact⟨vH,aq⟩
 |true=>
 by_cases ez:z=z'
 case neg=>
  have t1:(z != z')=true:=by rw[Fj];exact ez
  have F:=Dm (show R=false by rw[aa,Fe.2 ez];rfl);clear aa ez
  go_wp2
  go_ret
  exact⟨vH,aq⟩
 subst ez;have t1:(z != z)=false:=sV;by_cases el:l.length=m.length
 case neg=>
  have t2:((l.length:Int) != (m.length:Int))=true:=uF;have F:=Dm (show R=false by rw[aa,Gl el];simp);clear aa el
  go_wp2
  go_ret
  exact⟨vH,aq⟩
 have t2:((l.length:Int) != (m.length:Int))=false:=by rw[el];simp
 have br:=Dm (show R=(l.zip m).all (fun p=>rwB p.1 p.2) by rw[aa,Gm el];simp);have ds:=Dm el;clear aa el;obtain⟨n,bf⟩:=Ah l.length;obtain⟨n',bg⟩:=Ah m.length;rw[bf] at hn ah k6 t2;rw[bg] at ah q6 t2;have c7:=Dm bf;have d4:=Dm bg;clear bf bg
 go_wp2
 clear t1 t2 k6 k7 q6 q7 aq
 go_loopw [5] (fun z wr=>∃i:Nat,i<=n/\z=.int .i64 (i:Int)/\Hid ((((l.take i).zip (m.take i)).all fun p=>rwB p.1 p.2)=true)/\Below (A+2) O wr) (fun z _=>n-(intOf z).toNat)
 case atStart=>exact⟨0,Do _,rfl,Dm rfl,ae⟩
 case round=>
  clear ae;obtain⟨i,hi,rfl,ha,P⟩:=hrel;obtain⟨⟨k6,-,q6,-⟩,hE⟩:=ah.out _ P;by_cases c8:i<n
  ·have t0:decide ((i:Int)<(n:Int))=true:=sU;have ai:i<l.length:=by rw[c7.out];exact c8
   have aj:i<m.length:=by rw[<-ds.out];exact ai
   have dt:i<n':=by rw[<-d4.out];exact aj
   obtain⟨b1,o1,rfl,d5,a5⟩:=QG dx.out sX;obtain⟨rx,kx,c9,b5,ak,a6⟩:=a5 i ai;obtain⟨T,U⟩:=Ah ([Value.bool l[i].head,.int .i64 l[i].id,.int .i64 l[i].quant,.slice rx l[i].cels.length kx]);have bh:T.length=4:=zS;have bi:T.toArray.all (·.oneCell')=true:=by rw[<-U];simp[Value.oneCell']
   have b6:T[0]? =some (.bool l[i].head):=zS;have ae:T[1]? =some (.int .i64 l[i].id):=zS;have b7:T[2]? =some (.int .i64 l[i].quant):=zS;have bj:T[3]? =some (.slice rx l[i].cels.length kx):=zS;have b8:∀x,Below w.heap.size w x->x.rangeAt b1 (o1+i*4) T:=fun x a k v hk=>by
    obtain⟨a0,a1,a2,a3⟩:=a6 x a;rw[<-U] at hk
    match k,hk with
    |0,hk=>injection hk with hk;subst hk;exact a0
    |1,hk=>injection hk with hk;subst hk;exact a1
    |2,hk=>injection hk with hk;subst hk;exact a2
    |3,hk=>injection hk with hk;subst hk;exact a3
   have b9:=c2.out l[i] (Bl ai);clear a5 a6 U;obtain⟨b2,o2,rfl,ar,a7⟩:=QG dy.out sX;obtain⟨ry,ky,da,db,al,a8⟩:=a7 i aj;obtain⟨V,t⟩:=Ah ([Value.bool m[i].head,.int .i64 m[i].id,.int .i64 m[i].quant,.slice ry m[i].cels.length ky]);have bk:V.length=4:=by rw[<-t];rfl
   have bl:V.toArray.all (·.oneCell')=true:=by rw[<-t];simp[Value.oneCell']
   have cc:V[0]? =some (.bool m[i].head):=by rw[<-t];rfl
   have cd:V[1]? =some (.int .i64 m[i].id):=by rw[<-t];rfl
   have ce:V[2]? =some (.int .i64 m[i].quant):=by rw[<-t];rfl
   have bm:V[3]? =some (.slice ry m[i].cels.length ky):=by rw[<-t];rfl
   have cf:∀x,Below w.heap.size w x->x.rangeAt b2 (o2+i*4) V:=fun x a k v hk=>by
    obtain⟨a0,a1,a2,a3⟩:=a8 x a;rw[<-t] at hk
    match k,hk with
    |0,hk=>injection hk with hk;subst hk;exact a0
    |1,hk=>injection hk with hk;subst hk;exact a1
    |2,hk=>injection hk with hk;subst hk;exact a2
    |3,hk=>injection hk with hk;subst hk;exact a3
   have cg:=c3.out m[i] (Bl aj);clear a7 a8 t;have ch:=Dm (fun h=>UH (f:=rwB) ai aj ha.out h);have au:=Dm (fun h=>Up (f:=rwB) ai aj h);have bn:(prog.info? 46).map (·.size)=some T.length:=by rw[bh];kernel_rfl
   have bo:(prog.info? 46).map (·.size)=some V.length:=by rw[bk];kernel_rfl
   obtain⟨Y,bp,dc⟩:=RF;generalize dd:l[i]=ra at *;generalize de:m[i]=rb at *;clear dd de
   go_upto_region 6 with fail
   go_cut [6,7] from 36 to 45 (fun v u wx=>pV (A+2) O T V v u wx)
   case first=>
    obtain⟨D,hD⟩:=Ah wr.heap.size;have af:=Dm hD;clear hD;have a9:(prog.info? 46).map (·.size)=some T.toArray.size:=bn;have ba:(prog.info? 46).map (·.size)=some V.toArray.size:=bo;have ci:Y.size=T.toArray.size:=by rw[bp];exact bh.symm
    have cj:Y.size=V.toArray.size:=by rw[bp];exact bk.symm
    refine Pf (S:=fun x=>Below (A+2) O x) tN P.drew (fun g=>?_);refine AC 0 (some 36) g ?_
    try simp only[A1]
    refine B2 1 (some 37) (v:=.slice (some ⟨b1,o1,none⟩) n cb) rfl rfl g tN (fun x a=>by have c0:=(ah.out x a).1.1;go_simp) ?_
    try simp only[A1]
    refine AC 2 (some 38) g ?_
    try simp only[A1]
    refine AC 3 (some 39) g ?_
    try simp only[A1]
    refine BY 4 (some 40) (v:=.agg T.toArray) rfl rfl tN tN tN Wbr g (yieldsIf_load_mid tN 46 _ rfl b1 (o1+i*4) tN T _ (fun x a=>b8 x (ah.out x a).2) Ip rfl bn) ?_
    try simp only[A1]
    refine AC 5 (some 41) g ?_
    try simp only[A1]
    refine B2 6 (some 42) (v:=.slice (some ⟨b2,o2,none⟩) n' ad) rfl rfl g tN (fun x a=>by have c0:=(ah.out x a).1.2.2.1;go_simp) ?_
    try simp only[A1]
    refine AC 7 (some 43) g ?_
    try simp only[A1]
    refine AC 8 (some 44) g ?_
    try simp only[A1]
    refine BY 9 (some 45) (v:=.agg V.toArray) rfl rfl tN tN tN Wbr g (yieldsIf_load_mid tN 46 _ rfl b2 (o2+i*4) tN V _ (fun x a=>cf x (ah.out x a).2) Ip rfl bo) ?_
    try simp only[A1]
    refine Pc (rs:=[10,11]) tN sV ?_;refine Pa rfl (fun K B=>?_) (Pa rfl (fun K B=>?_) Pb)
    ·go_simp
     rw[af.out];have C:Below (A+2) O (wr.alloc (.cells Y 46 (0,0))).drew:=(P.alloc (by have:=P.size;have:=q.out;omega) _).drew;refine B.out _ _ C (fun d=>?_);clear B K g d;have g:=C
     try simp only[A1]
     obtain⟨v1,L⟩:=Ah ((wr.alloc (.cells Y 46 (0,0))).drew);have g1:v1.heap[D]? =some (.cells Y 46 (0,0)):=by rw[<-L,<-af.out];exact heap_alloc_new wr _
     have s1:v1.heap.size=D+1:=Waa;rw[L] at C g ⊢;clear L;refine Pc (rs:=[11]) tN sV ?_;refine Pa rfl (fun K B=>?_) Pb
     go_simp
     have s:Below (A+2) O (v1.alloc (.cells Y 46 (0,0))):=C.alloc zV _;refine B.out _ _ s (fun d=>?_);clear B K g d;have g:=s
     try simp only[A1]
     obtain⟨v2,M⟩:=Ah (v1.alloc (.cells Y 46 (0,0)));have g2:v2.heap[D+1]? =some (.cells Y 46 (0,0)):=by rw[<-M,<-s1];exact heap_alloc_new v1 _
     have g3:v2.heap[D]? =some (.cells Y 46 (0,0)):=by rw[<-M];exact BM g1
     rw[M] at s g ⊢;clear M C g1 s1;refine Pc (rs:=[12]) tN sV ?_;refine Pa rfl (fun K B=>?_) Pb;refine(Bb tN).mpr ?_;obtain⟨v3,am,e3,ab,E⟩:=Sx (Z:=T.toArray) g3 g2 sX s zV (by have:=s.size;have:=q.out;omega);refine Pg 46 _ _ rfl (D) T.toArray rfl rfl 46 Y g3 a9 ci bi ?_;rw[am];refine B.out _ _ E (fun d=>?_);clear B K g d am s g2 g3;have g:=E
     try simp only[Act.put]
     refine Pc (rs:=[13]) tN sV ?_;refine Pa rfl (fun K B=>?_) Pb;refine(Bb tN).mpr ?_;obtain⟨v4,an,e4,bq,ac⟩:=Sx (Z:=V.toArray) ab e3 sX E zV (by have:=E.size;have:=q.out;omega);refine Pg 46 _ _ rfl (D+1) V.toArray rfl rfl 46 Y ab ba cj bl ?_;rw[an];refine B.out _ _ ac (fun d=>?_);clear B K g d an E e3 ab;have g:=ac
     try simp only[Act.put]
     refine Pd tN ?_ _
     go_wp2
     go_meet
     case rel=>exact⟨D,D+1,rfl,rfl,bq,e4,ac⟩
    ·go_simp
     rw[af.out];have C:Below (A+2) O (wr.alloc (.cells Y 46 (0,0))).drew:=(P.alloc (by have:=P.size;have:=q.out;omega) _).drew;refine B.out _ _ C (fun d=>?_);clear B K g d;have g:=C
     try simp only[A1]
     obtain⟨v1,L⟩:=Ah ((wr.alloc (.cells Y 46 (0,0))).drew);have g1:v1.heap[D]? =some (.cells Y 46 (0,0)):=by rw[<-L,<-af.out];exact heap_alloc_new wr _
     have s1:v1.heap.size=D+1:=Waa;rw[L] at C g ⊢;clear L;refine Pc (rs:=[10]) tN sV ?_;refine Pa rfl (fun K B=>?_) Pb
     go_simp
     have s:Below (A+2) O (v1.alloc (.cells Y 46 (0,0))):=C.alloc zV _;refine B.out _ _ s (fun d=>?_);clear B K g d;have g:=s
     try simp only[A1]
     obtain⟨v2,M⟩:=Ah (v1.alloc (.cells Y 46 (0,0)));have g2:v2.heap[D+1]? =some (.cells Y 46 (0,0)):=by rw[<-M,<-s1];exact heap_alloc_new v1 _
     have g3:v2.heap[D]? =some (.cells Y 46 (0,0)):=by rw[<-M];exact BM g1
     rw[M] at s g ⊢;clear M C g1 s1;refine Pc (rs:=[12]) tN sV ?_;refine Pa rfl (fun K B=>?_) Pb;refine(Bb tN).mpr ?_;obtain⟨v3,am,e3,ab,E⟩:=Sx (Z:=T.toArray) g2 g3 sX s zV (by have:=s.size;have:=q.out;omega);refine Pg 46 _ _ rfl (D+1) T.toArray rfl rfl 46 Y g2 a9 ci bi ?_;rw[am];refine B.out _ _ E (fun d=>?_);clear B K g d am s g2 g3;have g:=E
     try simp only[Act.put]
     refine Pc (rs:=[13]) tN sV ?_;refine Pa rfl (fun K B=>?_) Pb;refine(Bb tN).mpr ?_;obtain⟨v4,an,e4,bq,ac⟩:=Sx (Z:=V.toArray) ab e3 sX E zV (by have:=E.size;have:=q.out;omega);refine Pg 46 _ _ rfl (D) V.toArray rfl rfl 46 Y ab ba cj bl ?_;rw[an];refine B.out _ _ ac (fun d=>?_);clear B K g d an E e3 ab;have g:=ac
     try simp only[Act.put]
     refine Pd tN ?_ _
     go_wp2
     go_meet
     case rel=>exact⟨D+1,D,rfl,rfl,bq,e4,ac⟩
   case rest=>
    obtain⟨X,df,rfl,rfl,e1,e2,ar⟩:=hcut;generalize wr=wo at *;obtain⟨H,I,Q,G⟩:=ra;obtain⟨ag,ck,Q',W⟩:=rb;dsimp only at *;have a0:=AA e1 b6;have a1:=AA e1 ae;have a2:=AA e1 b7;have a3:=AA e1 bj;have f0:=AA e2 cc;have f1:=AA e2 cd;have f2:=AA e2 ce;have f3:=AA e2 bm;have av:=(ah.out _ ar).2;have aw:Hid (∀x,Below wc.heap.size wc x->x.cell? ⟨X,3,none⟩=some (.slice rx G.length kx)/\x.cell? ⟨df,3,none⟩=some (.slice ry W.length ky)/\Below (A+2) O x/\Below w.heap.size w x):=Dm fun x a=>by
     have h1:=(a.block X (Am.1 e1).1).trans e1;have h2:=(a.block df (Am.1 e2).1).trans e2;have h3:Below (A+2) O x:=ar.trans (a.mono (by have:=ar.size;have:=q.out;omega));exact⟨AA h1 bj,AA h2 bm,h3,(ah.out x h3).2⟩
    have J:rwB ⟨H,I,Q,G⟩ ⟨ag,ck,Q',W⟩=((H==ag&&(I==ck&&Q==Q'))&&(decide (G.length=W.length)&&(G.zip W).all fun p=>FH p.1 p.2)):=rfl;generalize rwB ⟨H,I,Q,G⟩ ⟨ag,ck,Q',W⟩=rr at *;have dg:=Dm ak;have dh:=Dm al;have di:=Dm b9;have dj:=Dm cg;have dk:=Dm b5;clear e1 e2 b6 ae b7 bj cc cd ce bm ak al b9 cg b5 db c9 da b8 cf bi bl bh bk P hE ha bn bo dc bp;have dl:ag=H\/ag = !H:=by cases H <;> cases ag <;> simp
    rcases dl with rfl|rfl
    case inr=>
     have F:=Dm (au.out (by rw[J];cases H <;> rfl));clear ch au J;cases H <;>
     (go_wp2
      go_ret
      exact⟨Wac,av⟩)
    have tH:(ag != ag)=false:=sV;by_cases eI:I=ck
    case neg=>
     have tI:(I != ck)=true:=by rw[Fj];exact eI
     have F:=Dm (au.out (by rw[J,Fe.2 eI];simp));clear ch au J eI tH;cases ag <;>
     (go_wp2
      go_ret
      exact⟨Wac,av⟩)
    subst eI;have tI:(I != I)=false:=sV;by_cases eQ:Q=Q'
    case neg=>
     have tQ:(Q != Q')=true:=by rw[Fj];exact eQ
     have F:=Dm (au.out (by rw[J,Fe.2 eQ];simp));clear ch au J eQ tH;cases ag <;>
     (go_wp2
      go_ret
      exact⟨Wac,av⟩)
    subst eQ;have tQ:(Q != Q)=false:=sV;by_cases eL:G.length=W.length
    case neg=>
     have tL:((G.length:Int) != (W.length:Int))=true:=uF;have F:=Dm (au.out (by rw[J,Gl eL];simp));clear ch au J eL tH;cases ag <;>
     (go_wp2
      go_ret
      exact⟨Wac,av⟩)
    have tL:((G.length:Int) != (W.length:Int))=false:=by rw[eL];simp
    have du:=Dm (show rr=(G.zip W).all (fun p=>FH p.1 p.2) by rw[J,Gm eL];simp);have cl:=Dm eL;have dm:Below wc.heap.size wc wc:=Dn _ _;clear J eL tH;cases ag
    all_goals
     go_wp2
     clear a0 a1 a2 a3 f0 f1 f2 f3 tI tQ tL
     go_loopw [8] (fun z wr=>∃j:Nat,j<=G.length/\z=.int .i64 (j:Int)/\Hid ((((G.take j).zip (W.take j)).all fun p=>FH p.1 p.2)=true)/\Below wc.heap.size wc wr) (fun z _=>G.length-(intOf z).toNat)
     case atStart=>exact⟨0,Do _,rfl,Dm rfl,dm⟩
     case round=>
      obtain⟨j,hj,rfl,ha,P⟩:=hrel;have d6:G.length<=9223372036854775807:=by have:=dk.out;unfold maxLen at this;omega
      by_cases ao:j<G.length
      ·have t3:decide ((j:Int)<(G.length:Int))=true:=sU;have ap:j<W.length:=by rw[<-cl.out];exact ao
       have t4:j<W.length:=ap;obtain⟨a3,-,-,-⟩:=aw.out _ P;obtain⟨d1,g1,rfl,d7,cm⟩:=EE.each dg.out sX;obtain⟨d2,g2,rfl,d8,cn⟩:=EE.each dh.out sX;obtain⟨vs,hV,co⟩:=cm j ao;obtain⟨ax,hU,cp⟩:=cn j ap;have cq:=hV.shape.1;have cr:=hU.shape.1;obtain⟨p3,cs,ct,-,cu⟩:=hV;obtain⟨p4,cv,t,-,cw⟩:=hU;have dn:(prog.info? 77).map (·.size)=some vs.length:=by rw[cq];kernel_rfl
       have dp:(prog.info? 77).map (·.size)=some ax.length:=by rw[cr];kernel_rfl
       have d9:=Dm co;have ea:=Dm cp;have dv:=Dm (fun(x:A5) (a:Below wc.heap.size wc x)=>(by
        rw[ct,t];exact(mI G[j] W[j] p3 p4 (fun i=>(G[j].ev i).length) (fun i=>(W[j].ev i).length) cs cv x (fun i hi=>⟨rfl,di.out _ (Bl ao) i hi,(cu i hi).2.below (aw.out x a).2.2.2⟩) (fun i hi=>⟨rfl,dj.out _ (Bl ap) i hi,(cw i hi).2.below (aw.out x a).2.2.2⟩)).mono fun e y h=>⟨h.1,a.trans (h.2.mono a.size)⟩:A9 prog 58 #[.agg vs.toArray,.agg ax.toArray] x fun e y=>e=.returned (.bool (FH G[j] W[j]))/\Below wc.heap.size wc y))
       have ay:=Dm (fun h=>UH (f:=FH) ao ap ha.out h);have az:=Dm (fun h=>Up (f:=FH) ao ap h);clear cm cn co cp ct t cu cw ha;generalize FH G[j] W[j]=y at dv ay az
       go_wp2
       refine E1 (S:=fun x=>Below wc.heap.size wc x) 12 tN tN P.drew ?_;simp only[Dq,Bk,Gp,Gq];refine AQ ?_;simp only[A1];refine B4 44 _ ⟨X,3,none⟩ (.slice (some ⟨d1,g1,none⟩) G.length kx) tN rfl rfl (fun x a=>by have c0:=(aw.out x a).1;go_simp) ?_;simp only[A1]
       iterate 2 (refine AQ ?_;simp only[A1])
       refine B4 77 _ ⟨d1,g1+j*18,none⟩ (.agg vs.toArray) tN rfl rfl (fun x a=>SQ x d1 (g1+j*18) 77 vs _ (d9.out x (aw.out x a).2.2.2) Io rfl dn) ?_;simp only[A1];refine AQ ?_;simp only[A1];refine B4 44 _ ⟨df,3,none⟩ (.slice (some ⟨d2,g2,none⟩) W.length ky) tN rfl rfl (fun x a=>by have c0:=(aw.out x a).2.1;go_simp) ?_;simp only[A1]
       iterate 2 (refine AQ ?_;simp only[A1])
       refine B4 77 _ ⟨d2,g2+j*18,none⟩ (.agg ax.toArray) tN rfl rfl (fun x a=>SQ x d2 (g2+j*18) 77 ax _ (ea.out x (aw.out x a).2.2.2) Io rfl dp) ?_;simp only[A1];refine C2 tN dv.out (fun _=>tN) ?_;simp only[A1];refine AQ ?_;simp only[A1];refine DX fun x a=>?_;cases y with
       |true=>
        have N:=Dm (ay.out rfl);clear ay az
        go_wp2
        go_roundw
        case rel=>exact⟨j+1,sX,tP,N,a⟩
        case measure=>simp[intOf];omega
       |false=>
        have N:=Dm (au.out (by rw[du.out];exact az.out rfl));have dq:=(aw.out _ a).2.2.2;clear ay az
        go_wp2
        go_ret
        exact⟨by rw[br.out,N.out];rfl,dq⟩
      ·obtain rfl:G.length=j:=sX;have t3:decide ((G.length:Int)<(G.length:Int))=false:=sV;obtain⟨a3,-,dr,-⟩:=aw.out _ P;have N:=Dm (ch.out (by
        rw[du.out];have h:=ha.out;rw[Bh (B9 _),Bh (by have:=cl.out;omega)] at h;exact h))
       go_wp2
       go_roundw
       case rel=>exact⟨i+1,sX,tP,N,dr⟩
       case measure=>simp[intOf];omega
  ·obtain rfl:n=i:=sX;have t0:decide ((n:Int)<(n:Int))=false:=sV;have N:=Dm (show (l.zip m).all (fun p=>rwB p.1 p.2)=true by
    have h:=ha.out;rw[Bh (by have:=c7.out;omega),Bh (by have:=c7.out;have:=ds.out;omega)] at h;exact h)
   go_wp2
   go_ret
   exact⟨by rw[br.out,N.out];rfl,hE⟩
end Go.Proofs.YtjjmalchelniiaaGreatDoor