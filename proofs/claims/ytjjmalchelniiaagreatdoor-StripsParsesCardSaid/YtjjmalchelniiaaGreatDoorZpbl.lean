/- No condition. -/
import Derived.Test.YtjjmalchelniiaaGreatDoorZpe
import Derived.Test.YtjjmalchelniiaaGreatDoorZpw
import Derived.Test.YtjjmalchelniiaaGreatDoorZpbk
open Go.Proofs.Tryz
open Go renaming World->A5,Calls->A9,Value->A0,Addr->Aa
set_option maxHeartbeats 4000000
namespace Go.Proofs.YtjjmalchelniiaaGreatDoor
open Go.RowKit Go.Lib
theorem Wez{p:Prop}(h:p:=by
 go_wp2
 refine Is (B0 rfl _ _ B 153 _ (0,0) _ rfl (HR ab false 0 0) Kz rfl tN) rfl ?_;exact QQ (f:=2) yW yU):p:=h
theorem Wey{p:Prop}(h:p:=by
 refine Is (Qp rfl _ _ _) rfl ?_;exact F.out):p:=h
theorem Wex{p:Prop}(h:p:=by
 go_wp2_with (go_at_call 165;refine(Z _).mono ?_;rintro e w4 ⟨rfl,Q⟩)
 go_meet
 exact⟨by rw[hrt,L];rfl,I.trans (Q.mono af),(Q.block X bg).trans E⟩):p:=h
theorem Wev{p:Prop}(h:p:=by
 refine Nx (rs:=[17]) tN sZ ?_;refine Nt rfl (fun K t=>?_) Nv
 go_simp
 go_wp2_with (go_at_call 63;with_reducible refine(hn2 _).mono ?_;rintro e w3 ⟨rfl,rfl⟩)
 refine AW 18 (some 116) (v:=?_) rfl rfl tN tN tN Wbs (Or.inl ⟨yX,?_⟩) ?_
 rotate_left
 ·(intro w;go_simp;try with_reducible rfl)
 rotate_right
 refine Nx (rs:=[20]) tN sZ ?_;refine Nt rfl (fun K t=>?_) Nv
 go_simp
 refine t _ _ ?_;clear t K;refine O5 tN ?_ _
 go_wp2
 go_meet
 exact⟨rfl,(A.alloc A.size _).drew,heap_alloc_new w2 _⟩):p:=h
theorem Weu{p:Prop}(h:p:=by
 rw[hy] at b9 Y;clear hy;have N:=fun x=>Yr d (r:Int) y x;have O:wd.drew.heap[X]? =some (BD d r y):=Y;have C:Below wr.heap.size wr wd.drew:=ai.drew;obtain⟨a0,a1,a2,_,_,_⟩:=CI O;have ak:X<wd.drew.heap.size:=(E9.1 O).1
 go_wp2_with fail
 rw[bd.out];clear t3 t4 x0 x1 x2 y0 y1 y2 cn bc au bd
 go_cut [137] from 124 to 136 (fun v wx=>v=.bool (!DL (r:Int) y || inT d r y.natAbs)/\Below wr.heap.size wr wx/\wx.heap[X]? =some (BD d r y))
 case first=>
  cases hrt:DL (r:Int) y with
  |false=>
   rw[hrt] at N;refine Nz tN ?_;change wpAny _ _ _ _ _ _ _ (World.drew _);refine Nx (rs:=[0]) tN sZ ?_;refine Nt rfl (fun K t=>?_) Nv
   go_simp
   refine t _ _ ?_;clear t K;refine Nx (rs:=[1]) tN sZ ?_;refine Nt rfl (fun K t=>?_) Nv
   go_simp
   go_wp2_with (go_at_call 164;refine(N _).mono ?_;rintro e w3 ⟨rfl,D⟩)
   refine AW 2 (some 126) (v:=?_) rfl rfl tN tN tN Wbs (Or.inl ⟨yX,?_⟩) ?_
   rotate_left
   ·(intro w;go_simp;try with_reducible rfl)
   rotate_right
   refine AW 3 (some 127) (v:=?_) rfl rfl tN tN tN Wbs (Or.inl ⟨yX,?_⟩) ?_
   rotate_left
   ·(intro w;go_simp;try with_reducible rfl)
   rotate_right
   have E:w3.heap[X]? =some (BD d r y):=(D.block X ak).trans O;have I:=C.trans (D.mono C.size);refine AW 4 (some 128) (v:=undef) rfl rfl tN tN tN Wbs (Or.inr ⟨tN,rfl⟩) ?_;refine AW 5 (some 129) (v:=undef) rfl rfl tN tN tN Wbs (Or.inr ⟨tN,rfl⟩) ?_;refine AW 6 (some 130) (v:=undef) rfl rfl tN tN tN Wbs (Or.inr ⟨tN,rfl⟩) ?_;refine AW 7 (some 131) (v:=undef) rfl rfl tN tN tN Wbs (Or.inr ⟨tN,rfl⟩) ?_;refine AW 8 (some 132) (v:=undef) rfl rfl tN tN tN Wbs (Or.inr ⟨tN,rfl⟩) ?_;refine AW 9 (some 133) (v:=undef) rfl rfl tN tN tN Wbs (Or.inr ⟨tN,rfl⟩) ?_;refine AW 10 (some 134) (v:=undef) rfl rfl tN tN tN Wbs (Or.inr ⟨tN,rfl⟩) ?_;refine AW 11 (some 135) (v:=undef) rfl rfl tN tN tN Wbs (Or.inr ⟨tN,rfl⟩) ?_;refine AW 12 (some 136) (v:=undef) rfl rfl tN tN tN Wbs (Or.inr ⟨tN,rfl⟩) ?_;refine Nx (rs:=[13]) tN sZ ?_;refine Nt rfl (fun K t=>?_) Nv
   go_simp
   refine t _ _ ?_;clear t K;refine O5 tN ?_ _
   go_wp2
   go_meet
   exact⟨by rw[hrt];rfl,I,E⟩
  |true=>
   obtain⟨_,_,u0,u1,u2⟩:=KQ.1 hrt;have bf:∀x,A9 prog 166 #[.int .i64 y] x fun e w'=>e=.returned (.int .i64 (y.natAbs:Nat))/\w'=x:=fun x=>(bI y sX sX x).mono fun _ _ ⟨h1,h2⟩=>⟨h1,h2.symm⟩;have Z:=fun x=>ZJ d r y.natAbs an sX sX x;rw[hrt] at N;refine Nz tN ?_;change wpAny _ _ _ _ _ _ _ (World.drew _);refine Nx (rs:=[0]) tN sZ ?_;refine Nt rfl (fun K t=>?_) Nv
   go_simp
   refine t _ _ ?_;clear t K;refine Nx (rs:=[1]) tN sZ ?_;refine Nt rfl (fun K t=>?_) Nv
   go_simp
   go_wp2_with (go_at_call 164;refine(N _).mono ?_;rintro e w3 ⟨rfl,D⟩)
   refine AW 2 (some 126) (v:=?_) rfl rfl tN tN tN Wbs (Or.inl ⟨yX,?_⟩) ?_
   rotate_left
   ·(intro w;go_simp;try with_reducible rfl)
   rotate_right
   refine AW 3 (some 127) (v:=?_) rfl rfl tN tN tN Wbs (Or.inl ⟨yX,?_⟩) ?_
   rotate_left
   ·(intro w;go_simp;try with_reducible rfl)
   rotate_right
   have E:w3.heap[X]? =some (BD d r y):=(D.block X ak).trans O;have I:=C.trans (D.mono C.size);obtain⟨b0,b1,b2,_,_,_⟩:=CI E;refine dZ 4 11 (N8 (N8 (N8 (N8 (WU 11) tN sY) tN sY) tN sY) tN sY) tN sY sY tN tN tN rfl ?_;simp only[Dq,Bk,Nu,Nw]
   iterate 6 still_step
   still_call (bf _)
   refine wpStill_nil ?_;change wpList _ _ _ _ _ w3;have af:=I.size;have bg:X<w3.heap.size:=(E9.1 E).1;cases L:inT d r y.natAbs with
   |true=>
    obtain⟨tx,bh⟩:=Ah (GU d r y.natAbs);have co:tx.toList≠[]/\tx.toList.isEmpty=false:=by
     rw[<-bh];have h1:(GU d r y.natAbs).data.toList.length=AS (plT d r y.natAbs):=by unfold GU;rw[L,Bb rfl];exact IV _
     have h2:=(ID _ (Lc (PP an L) (show 102<103 by decide))).1;have h3:(GU d r y.natAbs).data.toList≠[]:=by
      intro h;rw[h,Bu] at h1;omega
     exact⟨by rw[Iu];exact h3,by rw[Iu];simpa using h3⟩
    obtain⟨ah,hn2⟩:=co;rw[bh] at Z
    exact Wex
   |false=>
    rw[show GU d r y.natAbs=⟨#[]⟩ by unfold GU;rw[L,Ba sY]] at Z
    exact Wex
 case rest=>
  clear N O C a0 a1 a2 ak ai Y;obtain⟨rfl,bi,cp⟩:=hcut;have al:=cr.out _ bi;have ad:=bq.out _ bi;obtain⟨n0,n1,n2,k0,k1,k2⟩:=CI al;obtain⟨z0,z1,z2,_,_,_⟩:=CI cp;obtain⟨bad,R⟩:=Ah ((!DL (r:Int) y || inT d r y.natAbs));have bx:etk G=if bad then ((false,0,0),7,0) else ((d,r,y),0,22):=by
   rw[b9.out,<-R];cases DL (r:Int) y <;> cases inT d r y.natAbs <;> rfl
  rw[R];clear R b9;cases bad with
  |true=>
   have F:=Dm (show etk G=((false,0,0),7,0) from bx);clear bx
   go_wp2
   refine Is (B0 rfl _ _ B 153 _ (0,0) _ rfl (HR al false 0 0) Kz rfl tN) rfl ?_;exact QQ (f:=7) yW yT
  |false=>
   have F:=Dm (show etk G=((d,r,y),0,22) from bx);clear bx
   go_wp2
   refine Is (B0 rfl _ _ B 153 _ (0,0) _ rfl (HR al d r y) Kz rfl tN) rfl ?_;exact QL (n:=22) yW (by have:=ek.out;omega) yT):p:=h
theorem Wbs{p:Prop}(h:p:=by exact fun _ _ _ h=>h):p:=h
theorem yT{p:Prop}(h:p:=by rw[bj.out];exact((ad.setCell (B9 _) _).setCell (B9 _) _).setCell (B9 _) _):p:=h
theorem yU{p:Prop}(h:p:=by rw[bj.out];exact((S.setCell (B9 _) _).setCell (B9 _) _).setCell (B9 _) _):p:=h
theorem yV{p:Prop}(h:p:=by rw[bj.out];exact(((S.setCell (B9 _) _).setCell (B9 _) _).setCell (B9 _) _).alloc (by simp;omega) _):p:=h
theorem yW{p:Prop}(h:p:=by rw[H.out];exact F.out):p:=h
theorem yX{p:Prop}(h:p:=by rfl):p:=h
theorem yY{p:Prop}(h:p:=by rw[a6.out];omega):p:=h
abbrev Nt:=@AllReady.cons
abbrev Nu:=@List.drop_succ_cons
abbrev Nv:=@AllReady.nil
abbrev Nw:=@List.drop_zero
abbrev Nx:=@wpAny_ready
abbrev Ny:=@Option.some.injEq
abbrev Nz:=@wp_region_any
abbrev O0:=@Option.map_some
abbrev O4:=@List.flatMap_append
abbrev O5:=@wpAny_done
def GU (last:Bool)(run a:Nat):ByteArray:=if inT last run a then FK (plT last run a) else ⟨#[]⟩
theorem VM (l:List ByteArray):(I1 l).length=l.length:=Kh _
theorem PI (last:Bool)(run:Nat):(FC last run).length=C5 last run:=by unfold FC;rw[Kh,List.length_range]
theorem Ux (last:Bool)(run:Nat):(K6 last run).length=C5 last run:=by unfold K6;rw[Kh,PI]
theorem aJ {l:List ByteArray}{last:Bool}{run:Nat}(h:I1 l=K6 last run){i:Nat}(hi:i<C5 last run):∃h2:i<l.length,l[i]=FK (H2 last+EI last run+i):=by
 have hl:l.length=C5 last run:=by rw[<-VM,h,Ux]
 refine⟨sX,LO.2 ?_⟩;have h1:(I1 l)[i]? =some l[i].data.toList:=by unfold I1;rw[Ig,Fh (by omega)];rfl
 rw[h] at h1;unfold K6 FC at h1;rw[Ig,Ig,List.getElem?_range hi] at h1;simp only[O0,Ny] at h1;exact h1.symm
set_option maxRecDepth 100000 in
theorem ZJ (last:Bool)(run a:Nat)(hr:run<64)(h1:1<=a)(h2:a<=200)(w:A5):A9 prog 165 #[.bool last,.int .i64 (run:Int),.int .i64 (a:Int)] w fun e t=>e=.returned (.string (GU last run a))/\Below w.heap.size w t:=by
 have f:=fun x=>Y4 last run hr x;by_cases h:a<=C5 last run
 ·have F:=Dm (show GU last run a=FK (plT last run a) by unfold GU;rw[Bb (Q9.2 ⟨h1,h⟩)]);rw[F.out];obtain⟨i,rfl⟩:∃i,a=i+1:=⟨a-1,sX⟩;have d:=fun(l:List ByteArray) (hl:I1 l=K6 last run)=>aJ hl (i:=i) sX;have g:plT last run (i+1)=H2 last+EI last run+i:=by unfold plT;omega
  rw[g];generalize FK (H2 last+EI last run+i)=y at d ⊢;have u:=Dm d;clear d F g h
  go_enter func165,ntmps165
  go_wp2_with fail
  refine(f _).mono ?_;rintro e r ⟨l,q,cap,rfl,hl,c,_,m⟩;obtain⟨j,s⟩:=u.out l hl;obtain⟨b,o,rfl,_,hc⟩:=c.at sX;have c0:r.cell? ⟨b,o+i,none⟩=some (.string y):=(hc i j).trans (by rw[s]);have t0:decide ((l.length:Int)<(i:Int)+1)=false:=tO;obtain⟨n,hn⟩:=Ah l.length;rw[hn] at t0 j ⊢;clear hc hl c s hn
  go_wp2
  go_ret
  exact⟨rfl,m⟩
 ·have F:=Dm (show GU last run a=⟨#[]⟩ by unfold GU;rw[Ba (by rw[Q9];omega)]);rw[F.out];have p:=fun(l:List ByteArray) (hl:I1 l=K6 last run)=>(show l.length<a by rw[<-VM,hl,Ux];omega);clear F h
  go_enter func165,ntmps165
  go_wp2_with fail
  refine(f _).mono ?_;rintro e r ⟨l,q,cap,rfl,hl,c,_,m⟩;have k:=p l hl;have t0:decide ((l.length:Int)<(a:Int))=true:=tO;generalize l.length=n at k t0 ⊢;have t1:decide (n<a)=true:=by simpa using k
  clear hl c
  go_wp2
  go_ret
  exact⟨rfl,m⟩
theorem bI (n:Int)(h1:-200<=n)(h2:n<=200)(w:A5):A9 prog 166 #[.int .i64 n] w fun e a=>e=.returned (.int .i64 (n.natAbs:Nat))/\w=a:=by
 by_cases h:n<0
 ·have t0:decide (n<0)=true:=uQ;have F:=Dm (show ((n.natAbs:Nat):Int) = -n by omega);rw[F.out]
  go_enter func166,ntmps166
  go_wp2
  go_ret
  exact⟨ES yX,rfl⟩
 ·have t0:decide (n<0)=false:=uQ;have F:=Dm (show ((n.natAbs:Nat):Int)=n by omega);rw[F.out]
  go_enter func166,ntmps166
  go_wp2
  go_ret
  exact⟨rfl,rfl⟩
def OR (run:Nat):List Nat:=(List.range run).flatMap fun r=>FC false r++FC true r
def GH (run k:Nat):List Nat:=102::OR run++(if 1<=k then FC false run else [])++(if 2<=k then FC true run else [])
theorem Y6a (run:Nat):GH run 2=GH (run+1) 0:=by
 unfold GH OR;simp[List.range_succ,List.flatMap_append]
theorem rN {run k:Nat}(h:k<2):GH run (k+1)=GH run k++FC (k==1) run:=by
 unfold GH;rcases (by omega:k=0\/k=1) with rfl|rfl <;> simp
theorem Qbv {last:Bool}{run i:Nat}(h:i<C5 last run):(FC last run).take (i+1)=(FC last run).take i++[H2 last+EI last run+i]:=by
 rw[Bd (by rw[PI];exact h)];simp[FC]
theorem fZ:∀run,(OR run).length<=24*run
 |0=>B9 _
 |r+1=>by
  have h:=fZ r;have h1:=KI false r;have h2:=KI true r;have e:OR (r+1)=OR r++(FC false r++FC true r):=by
   unfold OR;rw[Ck,O4];simp
  rw[e,B8,B8,PI,PI];omega
theorem jO {run k:Nat}(h:run<=64):(GH run k).length<=1600:=by
 have a:=fZ run;have h1:=KI false run;have h2:=KI true run;unfold GH;simp only[B8,Bi]
 split <;> split <;> simp[PI] <;> omega
def HO:List Nat:=GH 64 0
theorem Y2n:HO.Perm (List.range 103):=uB
theorem Ra:HO.length=103:=uB
theorem kC:HO[0]? =some 102:=rfl
theorem Qbu:∀j,j<103->(HO[j]?.getD 0)<103/\(0<j->(HO[j]?.getD 0)<102):=uB
def KE (p:Nat):List A0:=[.bool (evT p).1,.int .i64 ((evT p).2.1:Int),.int .i64 ((evT p).2.2:Int)]
theorem tkA (b:List UInt8):tk ((HO.map FK).map fun x=>x.data.toList) b 25 1=tk rowsT b 25 1:=by
 rw[Ks];refine Rp ?_ b 25 1;have:=Y2n.map (fun p=>rowC (GO p));unfold rowsT allT;rw[Ks];exact this
theorem lR {P:Program}{w:A5}{ops:Array Oper}{rest:List Oper}{o:Oper}{a:Act}{Q:Exit->Act->A5->Prop}{sl x:Operand}{t base e c:Nat}{i:TypeInfo}{z v:A0}{n:Nat}{l:List A0}{K:Nat}{y0:ByteArray}
  (m:o.guard=none)(ho:o.op=.call {callee:=.builtin .append,args:=#[sl,x],argTypes:=#[t,t]})
  (ht:P.underlying t=some (.slice e))(hi:P.info? e=some i)(s:i.zero=some z)(p:z.cells.size=1)(b:i.size=1)(q:i.bytes=16)
  (hs:a.eval sl=v)(g:w.ownsRow base e 1 v n l)(y:a.eval x=.slice (some ⟨K,0,none⟩) 1 c)(c0:w.cell? ⟨K,0,none⟩=some (.string y0))(hn:n<=1048576)(d:base<=w.heap.size)
  (h:∀f k,k.ownsRow base e 1 f (n+1) (l++[.string y0])->w.grownBy k v.ownBlock->(f.ownBlock=v.ownBlock\/f.ownBlock=some w.heap.size)->wpList P ops Q rest (a.put o.dst f) k):wpList P ops Q (o::rest) a w:=
 wpList_append_own_at w m sl x t ho base e i z 1 16 ht hi s b q p sY v n l hs g ⟨K,0,none⟩ 1 c [.string y0] y rfl
  (fun j u hj=>by
   match j,hj with
   |0,hj=>cases hj;exact c0)
  tM tK sX d
  fun f k h1 h2 _ h4=>h f k h1 h2 h4
theorem nH (l:List Nat):∀(i:Nat) (h:i<l.length),(l.flatMap KE)[3*i]? =some (.bool (evT l[i]).1)/\(l.flatMap KE)[3*i+1]? =some (.int .i64 ((evT l[i]).2.1:Int))/\(l.flatMap KE)[3*i+2]? =some (.int .i64 ((evT l[i]).2.2:Int)):=by
 induction l with
 |nil=>intro i h;cases h
 |cons p l a=>
  intro i h
  match i with
  |0=>exact⟨rfl,rfl,rfl⟩
  |i+1=>
   have:=a i uQ;rw[Gc,show 3*(i+1)=(KE p).length+3*i by simp[KE];omega];rw[Ga sX,Bm,By,By,Ga sX,Ga sX,Bm,Bm];exact this
def KZ (O:Nat)(P:List Nat)(u v:A0)(wr:A5):Prop:=
 wr.ownsRow O 9 1 u P.length (DA (P.map FK))/\wr.ownsRow O 153 3 v P.length (P.flatMap KE)
theorem KZ.below {O:Nat}{P:List Nat}{u v:A0}{w x:A5}(h:KZ O P u v w)(a:Below w.heap.size w x):KZ O P u v x:=
 ⟨h.1.kept (BF a none) (Kt _),h.2.kept (BF a none) (Kt _)⟩
theorem KZ.lt {O:Nat}{P:List Nat}{u v:A0}{w:A5}(h:KZ O P u v w):(∀k,u.ownBlock=some k->k<w.heap.size)/\∀k,v.ownBlock=some k->k<w.heap.size:=
 ⟨fun k e=>(h.1.lt k e).2,fun k e=>(h.2.lt k e).2⟩
theorem bY {w x:A5}{q:Option Aa}{l:List ByteArray}{row:Option Nat}(h:DN w q l)(hg:w.grownBy x row)(c:∀a,q=some a->some a.block≠row):DN x q l:=by
 rcases h with h|⟨b,o,rfl,h2,h3⟩
 ·exact .inl h
 ·refine .inr ⟨b,o,rfl,Bc h2 hg.size,fun i hi=>?_⟩;exact(G4 (a:=⟨b,o+i,none⟩) (hg.block b h2 (c _ rfl))).trans (h3 i hi)
theorem kE {w:A5}{q:Option Aa}{l:List ByteArray}(h:DN w q l)(c:0<l.length):∀a,q=some a->a.block<w.heap.size:=by
 obtain⟨b,o,rfl,h2,_⟩:=h.at c;intro a e;cases e;exact h2
def PX (q:Option Aa)(u v:A0):Prop:=∀a,q=some a->some a.block≠u.ownBlock/\some a.block≠v.ownBlock
theorem Qmx {O n:Nat}{u v g:A0}{wr f m:A5}{ob:Obj}{q:Option Aa}{l:List ByteArray}{s o:List A0}(p:wr.ownsRow O 9 1 u n s)(t:wr.ownsRow O 153 3 v n o)(w:Below O m wr)(x:O<=wr.heap.size)
  (i:DN wr q l)(c:PX q u v)(r:∀a,q=some a->a.block<wr.heap.size)(b:(wr.alloc ob).grownBy f u.ownBlock)(j:g.ownBlock=u.ownBlock\/g.ownBlock=some (wr.alloc ob).heap.size):
  f.ownsRow O 153 3 v n o/\Below O m f/\O<=f.heap.size/\DN f q l/\PX q g v/\∀a,q=some a->a.block<f.heap.size:=by
 have y:(wr.alloc ob).heap.size=wr.heap.size+1:=sZ;refine⟨XV (t.alloc _) (p.alloc _) sY b,(w.alloc x _).grown b sX (fun k hk=>(p.lt k hk).1),Ef sX b.size,bY (i.below ((Dn _ wr).alloc (B9 _) _)) b (fun a d=>(c a d).1),fun a d=>⟨?_,(c a d).2⟩,fun a d=>?_⟩
 ·rcases j with h|h
  ·rw[h];exact(c a d).1
  ·rw[h];intro e;injection e with e;have:=r a d;omega
 ·have:=r a d;have:=b.size;omega
theorem Qov {O n m:Nat}{u v g:A0}{wr d o:A5}{ob:Obj}{q:Option Aa}{l:List ByteArray}{p s:List A0}(t:wr.ownsRow O 9 1 u n p)(r:wr.ownsRow O 153 3 v m s)(w:Below O o wr)(x:O<=wr.heap.size)
  (i:DN wr q l)(c:PX q u v)(y:∀a,q=some a->a.block<wr.heap.size)(b:(wr.alloc ob).grownBy d v.ownBlock)(j:g.ownBlock=v.ownBlock\/g.ownBlock=some (wr.alloc ob).heap.size):
  d.ownsRow O 9 1 u n p/\Below O o d/\O<=d.heap.size/\DN d q l/\PX q u g:=by
 have z:(wr.alloc ob).heap.size=wr.heap.size+1:=sZ;refine⟨XV (t.alloc _) (r.alloc _) sY b,(w.alloc x _).grown b sX (fun k hk=>(r.lt k hk).1),Ef sX b.size,bY (i.below ((Dn _ wr).alloc (B9 _) _)) b (fun a f=>(c a f).2),fun a f=>⟨(c a f).1,?_⟩⟩;rcases j with h|h
 ·rw[h];exact(c a f).2
 ·rw[h];intro e;injection e with e;have:=y a f;omega
def Ry (b:List UInt8)(at_:Nat)(w:A5)(e:Ending)(a:A5):Prop:=
 e=.returned (.tuple #[NC (etk b).1,.int .i64 ((at_+(etk b).2.2:Nat):Int),.int .i64 (etk b).2.1])/\Below w.heap.size w a
theorem QL {a:List UInt8}{at_ n:Nat}{z:Int}{w b:A5}{l:Bool}{r:Nat}{v f:Int}(h:etk a=((l,r,v),f,n))(ht:((at_+n:Nat):Int)=z)(c:Below w.heap.size w b):
  Ry a at_ w (.returned (.tuple #[.agg #[.bool l,.int .i64 (r:Int),.int .i64 v],.int .i64 z,.int .i64 f])) b:=by
 subst ht;unfold Ry;rw[h];exact⟨rfl,c⟩
theorem QQ {a:List UInt8}{at_:Nat}{w b:A5}{f:Int}(h:etk a=((false,0,0),f,0))(c:Below w.heap.size w b):
  Ry a at_ w (.returned (.tuple #[.agg #[.bool false,.int .i64 0,.int .i64 0],.int .i64 (at_:Int),.int .i64 f])) b:=QL (r:=0) (n:=0) h rfl c
set_option maxRecDepth 100000 in
theorem Y5h (s:ByteArray)(at_:Nat)(w:A5)(hs:s.size<=1048576)(ha:at_<=s.size)(av:AH s.data.toList=true):
  A9 prog 134 #[.string s,.int .i64 (at_:Int)] w (Ry (s.data.toList.drop at_) at_ w):=by
 obtain⟨i0,hi,dr,ds,dt⟩:=Ds Q1;obtain⟨i1,hj,du,dv,dw⟩:=Ds T3;obtain⟨B,hB⟩:=Ah w.heap.size;obtain⟨wA,aw⟩:=Ah (w.alloc (.cells #[.bool false,.int .i64 0,.int .i64 0] 153 (0,0)));have ax:wA.heap.size=B+1:=by rw[<-aw,<-hB];simp
 have cs:Below B w wA:=by rw[<-aw,<-hB];exact(Dn _ w).alloc (B9 _) _
 have ct:wA.heap[B]? =some (BD false 0 0):=by rw[<-aw,<-hB];exact heap_alloc_new w _
 obtain⟨wB,bl⟩:=Ah ((wA.alloc (.cells #[.string ⟨#[48,48,48,48,48,49,49]⟩] 9 (0,0))).alloc (.cells #[.bool false,.int .i64 0,.int .i64 0] 153 (0,0)));have ca:Below (B+1) wA wB:=by rw[<-bl,<-ax];exact((Dn _ wA).alloc (B9 _) _).alloc (by simp) _
 have cu:B+1<=wB.heap.size:=by rw[<-ax];exact ca.size
 have ay:KZ (B+1) (GH 0 0) (.slice (some ⟨B+1,0,none⟩) 1 1) (.slice (some ⟨B+1+1,0,none⟩) 1 1) wB:=by
  rw[<-bl,<-ax];refine⟨World.ownsRow.alloc (Kx wA #[.string ⟨#[48,48,48,48,48,49,49]⟩] 1 (B9 _) tK rfl) _,?_⟩;have:=Kx (base:=wA.heap.size) (e:=153) (size:=3) (wA.alloc (.cells #[.string ⟨#[48,48,48,48,48,49,49]⟩] 9 (0,0))) #[.bool false,.int .i64 0,.int .i64 0] 1 sZ tK rfl;rw[show (wA.alloc (.cells #[.string ⟨#[48,48,48,48,48,49,49]⟩] 9 (0,0))).heap.size=wA.heap.size+1 by simp] at this;exact this
 have bj:=Dm hB;have dx:=Dm (show ((w.alloc (.cells #[.bool false,.int .i64 0,.int .i64 0] 153 (0,0))).alloc (.cells #[.string ⟨#[48,48,48,48,48,49,49]⟩] 9 (0,0))).alloc (.cells #[.bool false,.int .i64 0,.int .i64 0] 153 (0,0))=wB by rw[aw];exact bl);have dy:=Dm cs;have dz:=Dm ct;have el:=Dm ax;clear hB aw bl cs ct ax
 go_enter func134,ntmps134
 go_wp2
 rw[dx.out,bj.out]
 go_loopw [7,8,9] (fun u v z wr=>∃run:Nat,run<=64/\z=.int .i64 run/\KZ (B+1) (GH run 0) u v wr/\Below (B+1) wA wr/\B+1<=wr.heap.size) (fun _ _ z _=>64-(intOf z).toNat)
 case atStart=>exact⟨0,sX,rfl,ay,ca,cu⟩
 case round=>
  clear ay ca cu;obtain⟨run,cv,rfl,m,hb,hz⟩:=hrel;by_cases cw:run<64
  ·have t0:decide ((run:Int)<=63)=true:=tO
   go_wp2_with fail
   obtain⟨wo,rfl⟩:∃wo:A5,wo=wr:=⟨_,rfl⟩
   go_loopw [7,8,10] (fun u v z wr=>∃k:Nat,k<=2/\z=.int .i64 k/\KZ (B+1) (GH run k) u v wr/\Below (B+1) wA wr/\B+1<=wr.heap.size) (fun _ _ z _=>2-(intOf z).toNat)
   case atStart=>exact⟨0,sX,rfl,m,hb,hz⟩
   case round=>
    clear m hb hz;obtain⟨k,hk,rfl,m,hb,hz⟩:=hrel;by_cases d4:k<2
    ·obtain⟨d,ap⟩:=Ah (k==1);have g0:((k:Int)==1)=d:=by rw[<-ap,Jc,Bj,Bj];omega
     have t1:decide ((k:Int)<2)=true:=tO;have eg:=Dm ap;clear ap
     go_wp2_with fail
     refine(Y4 d run cw _).mono ?_;rintro e ws ⟨l,q,cap,rfl,hl,aq,cx,V⟩;have az:=m.below V;have bm:PX q u7 u8:=by
      obtain⟨l1,l2⟩:=m.lt;intro a ha;have:=cx a ha;exact⟨fun e=>by have:=l1 _ e.symm;omega,fun e=>by have:=l2 _ e.symm;omega⟩
     have A:=hb.trans (V.mono hz);have cy:=Ef hz V.size;have hn:l.length=C5 d run:=by rw[<-VM,hl,Ux]
     have em:=Dm hl;obtain⟨n,bn⟩:=Ah (C5 d run);rw[bn] at hn;have et:=Dm hn;have cz:=Dm bn;have c3:n<=12:=by rw[<-bn];exact KI d run
     have bz:=aq;clear m hb hz V cx hl aq bn
     go_wp2_with fail
     obtain⟨c4,rfl⟩:∃c4:A5,c4=ws:=⟨_,rfl⟩
     go_loopw [7,8,12] (fun u v z wr=>∃i:Nat,i<=n/\z=.int .i64 i/\KZ (B+1) (GH run k++(FC d run).take i) u v wr/\Below (B+1) wA wr/\B+1<=wr.heap.size/\DN wr q l/\PX q u v) (fun _ _ z _=>n-(intOf z).toNat)
     case atStart=>exact⟨0,sX,rfl,by rw[Bk,Fa];exact az,A,cy,bz,bm⟩
     case round=>
      clear az A cy bz bm;obtain⟨i,L,rfl,m,hb,hz,aq,bm⟩:=hrel;by_cases a3:i<n
      ·have cb:i<C5 d run:=by rw[cz.out];exact a3
       obtain⟨c5,hy⟩:=aJ em.out (i:=i) cb;obtain⟨p,hp⟩:=Ah (H2 d+EI d run+i);have cc:=Qbv cb;rw[hp] at hy cc;have ae:evT p=(d,run,i+1):=by
        have h2:plT d run (i+1)=p:=by unfold plT;omega
        rw[<-h2];exact YS cw (Q9.2 ⟨sX,sX⟩)
       have c6:(GH run k++(FC d run).take i).length<=1700:=by
        have:=jO (run:=run) (k:=k) cv;rw[B8,Be];omega
       have c7:=kE aq sX;obtain⟨b,o,rfl,cd,am⟩:=aq.at sX;have c0:wr.cell? ⟨b,o+i,none⟩=some (.string (FK p)):=(am i c5).trans (by rw[hy]);obtain⟨y,cf⟩:=Ah (FK p);rw[cf] at c0;obtain⟨P,hP⟩:=Ah (GH run k++(FC d run).take i);have c8:GH run k++(FC d run).take (i+1)=P++[p]:=by rw[cc,<-Bg,hP]
       rw[hP] at m c6;have en:=Dm (show DA ((P++[p]).map FK)=DA (P.map FK)++[.string y] by rw[Cc,List.map_singleton,OP,cf]);have eo:=Dm (show (P++[p]).flatMap KE=P.flatMap KE++[.bool d,.int .i64 (run:Int),.int .i64 ((i:Int)+1)] by rw[O4];simp[KE,ae]);have d5:=Dm c8;obtain⟨o1,o2⟩:=m;clear c8 hP cf am c5 hy hp cc ae cb
       go_wp2_with (first
        |(at_builtin;refine lR (y0:=y) rfl rfl underlying163 hi dr rfl ds dt rfl (o1.alloc _) rfl ?d1 ?d2 ?d3 ?_;(case d1=>go_cell);(case d2=>omega);(case d3=>(simp;omega));intro v2 w2 q1 c9 da;obtain⟨q2,D,d6,db,dc,dd⟩:=Qmx o1 o2 hb hz aq bm c7 c9 da;clear c9 da)
        |(at_builtin;refine O1 (y0:=d) (y1:=(run:Int)) (y2:=(i:Int)+1) rfl rfl L6 hj du rfl dv dw rfl (q2.alloc _) rfl ?e0 ?e1 ?e2 ?d2 ?d3 ?_;(case e0=>go_cell);(case e1=>go_cell);(case e2=>go_cell);(case d2=>omega);(case d3=>(simp;omega));intro v3 w3 q3 b3 b4;obtain⟨q4,I,af,de,df⟩:=Qov q1 q2 D d6 db dc dd b3 b4;clear b3 b4))
       go_roundw
       case rel=>exact⟨i+1,sX,tP,by rw[d5.out];unfold KZ;rw[en.out,eo.out,B8,Bo];exact⟨q4,q3⟩,I,af,de,df⟩
       case measure=>simp[intOf];omega
      ·obtain rfl:i=n:=sX;have ep:=Dm (show GH run k++(FC d run).take i=GH run (k+1) by
        rw[rN d4,<-eg.out,Bh (by rw[PI,eg.out,cz.out];exact B9 _)])
       rw[ep.out] at m
       go_wp2
       go_roundw
       case rel=>exact⟨k+1,sX,tP,m,hb,hz⟩
       case measure=>simp[intOf];omega
    ·obtain rfl:k=2:=sX;rw[Y6a] at m
     go_wp2
     go_roundw
     case rel=>exact⟨run+1,sX,tP,m,hb,hz⟩
     case measure=>simp[intOf];omega
  ·obtain rfl:run=64:=sX;have t0:decide (((64:Nat):Int)<=63)=false:=sY;obtain⟨o1,o2⟩:=m;have dg:wr.ownsRow (B+1) 9 1 u7 (HO.map FK).length (DA (HO.map FK)):=by rw[Kh];exact o1
   obtain⟨q,cq,rfl,hq⟩:=Tg dg;have a4:(HO.map FK).length=103:=by rw[Kh,Ra]
   have cg:wr.ownsRow (B+1) 153 3 u8 103 (HO.flatMap KE):=by rw[<-Ra];exact o2
   obtain⟨g,ce,rfl,eq,b5⟩:=cg.form sX;have a5:=fun j hj=>cg.cellAt j hj;obtain⟨G,V⟩:=Ah (s.data.toList.drop at_);have cd:G.length=s.size-at_:=by rw[<-V,Bf];rfl
   obtain⟨f,n,hk⟩:∃f n,tk rowsT G 25 1=(f,n):=⟨_,_,rfl⟩;have bo:=SB (HO.map FK) q cq s at_ wr hq (by rw[a4];decide) hs ha;have bp:=Dm (fun(x:A5) (hx:Below wr.heap.size wr x) (j:Nat) (hj:j<309)=>((G4 (a:=⟨g,j,none⟩) (hx.block g b5)).trans (a5 j sX):x.cell? ⟨g,j,none⟩=(HO.flatMap KE)[j]?));rw[V] at bo;rw[a4] at bo ⊢;have H:=Dm V;have a6:=Dm cd;have dq:=Dm hk;have dh:=Dm bo;have cr:=Dm (fun(x:A5) (hx:Below wr.heap.size wr x)=>((((hb.trans (hx.mono hz)).block B sX).trans dz.out):x.heap[B]? =some (BD false 0 0)));have bq:=Dm (fun(x:A5) (hx:Below wr.heap.size wr x)=>(dy.out.trans ((hb.trans (hx.mono hz)).mono sX):Below B w x));clear o1 dg o2 cg a5 V cd hk bo hb hz hq b5
   go_wp2_with fail
   refine dh.out.mono ?_;rintro e w2 ⟨j,rfl,aa,br,A⟩;rw[tkA,dq.out] at aa br ⊢;have ab:=cr.out _ A;have S:=bq.out _ A;obtain⟨d0,d1,d2,f0,f1,f2⟩:=CI ab;by_cases hf:f=0
   ·subst hf;obtain⟨a7,bt⟩:=aa rfl;clear aa br;have M:j<103:=by rw[a4] at a7;exact a7
    obtain⟨p,hp⟩:=Ah (HO[j]?.getD 0);obtain⟨p1,p2⟩:=Qbu j M;rw[hp] at p1 p2;have a8:HO[j]'(by rw[Ra];exact M)=p:=by
     rw[<-hp,Fh (by rw[Ra];exact M)]
     rfl
    have a9:rowC (GO p)=G.take n:=by
     rw[<-bt,Ke,a8]
     rfl
    have hg:=VT Q6 dq.out (Qj p1) a9;have ar:=(OV dq.out).2.1;have ac:n=AS p:=by
     have:=Bz List.length a9;rw[IV,Be,Bv ar] at this;exact this.symm
    have W:gtk allT G=((p:Int),0,n):=hg;have eu:=Dm W;have c3:n<=12:=by rw[ac];exact(ID p p1).2.1
    by_cases aa:0<j
    ·have ch:=p2 aa;have t1:decide (0<(j:Int))=true:=tO;have t2:decide (0<j)=true:=by simpa using aa
     obtain⟨e0,e1,e2⟩:=nH HO j (by rw[Ra];exact M);rw[a8,Ca 3 j] at e0 e1 e2;obtain⟨⟨l,r,a⟩,ae⟩:=Ah (evT p);have di:=(UK p ch).2.2.2;rw[ae] at e0 e1 e2 di;have c0:=(bp.out _ A (j*3) sX).trans e0;have c1:=(bp.out _ A (j*3+1) sX).trans e1;have c2:=(bp.out _ A (j*3+2) sX).trans e2;by_cases b6:at_+n=s.size
     ·have F:=Dm (Ss W (by rw[Ba (by omega),<-ac,a6.out];omega));have g0:((at_:Int)+n==s.size)=true:=uE;clear a9 a8 bt a7 hg W ac ar p2 hp b6 e0 e1 e2 ae c0 c1 c2
      exact Wez
     ·have a3:at_+n<s.size:=by rw[a6.out] at ar;omega
      have bk:=Sn W sX (by rw[<-ac,a6.out];omega);rw[<-ac,ae] at bk;have J:=SK G n yY;have dj:G[n]' yY=s[at_+n]:=by
       have:=H.out;subst this;rw[Fp]
       rfl
      rw[dj] at J;have ba:=NN s.data.toList (at_+n) a3 av;have ci:s[at_+n].toNat=48\/s[at_+n].toNat=49:=ba;have g0:((at_:Int)+n==s.size)=false:=uC;have D:Below wr.heap.size wr (w2.alloc (.cells #[.bool l,.int .i64 (r:Int),.int .i64 (a:Int)] 153 (0,0))):=A.alloc A.size _;have d7:=cr.out _ D;have eh:=bq.out _ D;have E:(w2.alloc (.cells #[.bool l,.int .i64 (r:Int),.int .i64 (a:Int)] 153 (0,0))).heap[w2.heap.size]? =some (BD l r a):=heap_alloc_new w2 _;have d8:B<w2.heap.size:=(E9.1 ab).1;obtain⟨m0,m1,m2,k0,k1,k2⟩:=CI d7;obtain⟨x0,x1,x2,y0,y1,y2⟩:=CI E;clear a9 a8 bt a7 hg W ac ar p2 hp b6 e0 e1 e2 ae dj ba;rcases ci with dk|dl
      ·have F:=Dm (show etk G=((l,r,(a:Int)),0,n+1) by
        rw[bk,J,dk,show (2*num (G.take n)+(48-48))%2=0 by omega]
        rfl)
       have g1:((s[at_+n].toNat:Int)==49)=false:=by rw[dk];rfl
       clear bk J
       go_wp2
       refine Is (B0 rfl _ _ B 153 _ (0,0) _ rfl (BM (HR ab l r a)) Kz rfl tN) rfl ?_;exact QL (n:=n+1) yW sX yV
      ·have F:=Dm (show etk G=((l,r,-(a:Int)),0,n+1) by
        rw[bk,J,dl,show (2*num (G.take n)+(49-48))%2=1 by omega]
        rfl)
       have g1:((s[at_+n].toNat:Int)==49)=true:=by rw[dl];rfl
       clear bk J
       go_wp2
       refine Is (B0 rfl _ _ B 153 _ (0,0) _ rfl (BM (HR ab l r (-(a:Int)))) Kz rfl tN) rfl ?_;exact QL (n:=n+1) yW sX yV
    ·obtain rfl:j=0:=sX;have d9:p=102:=by
      rw[kC] at hp;exact hp.symm
     subst d9;have ea:n=7:=by rw[ac];decide +kernel
     subst ea;clear a9 a8 bt a7 hg ac p2 hp M aa;by_cases er:s.size<at_+22
     ·have F:=Dm (Ss W (by rw[Bb rfl,a6.out];omega));have g0:decide ((s.size:Int)-((at_:Int)+7)<15)=true:=tO;clear W ar
      exact Wez
     ·have bk:=S0 W yY;have g0:decide ((s.size:Int)-((at_:Int)+7)<15)=false:=tO;obtain⟨T,hT⟩:∃T:Nat,at_+7=T:=⟨_,rfl⟩;have es:(at_:Int)+7=(T:Int):=sX;have ei:T+15<=s.size:=sX;have ej:T<s.size:=sX;have ag:AH G=true:=by rw[<-H.out];exact DH _ _ av
      obtain⟨x1,cj⟩:=Ah (s.extract (T+1) (T+7));obtain⟨x2,ck⟩:=Ah (s.extract (T+7) (T+15));have bu:x1.data.toList=(G.drop 8).take 6:=by
       rw[<-cj,Km,<-H.out,Cf,show T+7-(T+1)=6 by omega,show at_+8=T+1 by omega]
      have bv:x2.data.toList=(G.drop 14).take 8:=by
       rw[<-ck,Km,<-H.out,Cf,show T+15-(T+7)=8 by omega,show at_+14=T+7 by omega]
      have dm:x1.data.toList.length=6:=by rw[bu,Be,Bf,a6.out];omega
      have dn:x2.data.toList.length=8:=by rw[bv,Be,Bf,a6.out];omega
      have cl:AH x1.data.toList=true:=by rw[bu];exact ET _ _ (DH _ _ ag)
      have cm:AH x2.data.toList=true:=by rw[bv];exact ET _ _ (DH _ _ ag)
      obtain⟨r,hr⟩:=Ah (num x1.data.toList);obtain⟨U,bw⟩:=Ah (num x2.data.toList);have an:r<64:=by
       have:=K0 _ cl 6 sX;rw[Bh sX,hr] at this;exact this
      have eb:U<256:=by
       have:=K0 _ cm 8 sX;rw[Bh sX,bw] at this;exact this
      obtain⟨c,hc⟩:=Ah (s[T].toNat-48);have b7:(s[T].toNat=48/\c=0)\/(s[T].toNat=49/\c=1):=by
       have ba:s[T].toNat=48\/s[T].toNat=49:=NN s.data.toList T (by show T<s.size;omega) av;omega
      have dp:G[7]' yY=s[T]:=by
       have:=H.out;subst this;subst hT;rw[Fp]
       rfl
      have J:num (G.take 22)=((2*num (G.take 7)+c)*64+r)*256+U:=by
       have e1:G.take 22=G.take 8++((G.drop 8).take 6++(G.drop 14).take 8):=by
        rw[show (22:Nat)=8+(6+8) by rfl,Ct,Ct,Cf]
       rw[e1,LR,LR,<-bu,<-bv,hr,bw,B8,dm,dn,SK G 7 yY,dp,hc];omega
      have b8:E5 (num (G.take 22))=(c==1,r,if 127<U then (U:Int)-256 else (U:Int)):=by
       rw[J];obtain⟨z,hz⟩:=Ah (num (G.take 7));rw[hz];unfold E5;rw[show (((2*z+c)*64+r)*256+U) / 16384%2=c by omega,show (((2*z+c)*64+r)*256+U) / 256%64=r by omega,show (((2*z+c)*64+r)*256+U)%256=U by omega]
      rw[b8] at bk;have ah:=fun x=>ND x1 (by have:x1.data.toList.length=x1.size:=rfl;omega) cl x;have hn2:=fun x=>ND x2 (by have:x2.data.toList.length=x2.size:=rfl;omega) cm x;rw[hr] at ah;rw[bw] at hn2;rw[<-cj] at ah;rw[<-ck] at hn2;have bb:((s[T].toNat:Int)==49)=(c==1):=by rcases b7 with ⟨h1,h2⟩|⟨h1,h2⟩ <;> rw[h1,h2] <;> rfl
      obtain⟨d,ap⟩:=Ah (c==1);rw[ap] at bk bb;have ek:=Dm hT;have b9:=Dm bk;clear W ar hT ag cj ck bu bv dm dn cl cm hr bw hc b7 dp J b8 ap bk
      go_wp2_with fail
      have ec:IntKind.i64.wrap ((T:Int)+1)=(T:Int)+1:=Kd _ sX;have ed:IntKind.i64.wrap ((T:Int)+7)=(T:Int)+7:=Kd _ sX;have ee:IntKind.i64.wrap ((T:Int)+15)=(T:Int)+15:=Kd _ sX;have k1:((T:Int)+1).toNat=T+1:=sX;have k2:((T:Int)+7).toNat=T+7:=sX;have k3:((T:Int)+15).toNat=T+15:=sX;have p1:0<=(T:Int)+7/\(T:Int)+7<=(s.size:Int):=sX;have p2:0<=(T:Int)+1:=sX;have p3:0<=(T:Int)+15/\(T:Int)+15<=(s.size:Int):=sX;have p4:0<=(T:Int)+7:=sX;clear d0 d1 d2 f0 f1 f2
      go_cut [17] from 98 to 116 (fun v wx=>v=.pointer (some ⟨w2.heap.size,0,none⟩)/\Below wr.heap.size wr wx/\wx.heap[w2.heap.size]? =some (BD d r U))
      case first=>
       refine Nz tN ?_;change wpAny _ _ _ _ _ _ _ (World.drew _);refine AW 0 (some 98) (v:=?_) rfl rfl tN tN tN Wbs (Or.inl ⟨yX,?_⟩) ?_
       rotate_left
       ·(intro w;go_simp;try with_reducible rfl)
       rotate_right
       refine AW 1 (some 99) (v:=?_) rfl rfl tN tN tN Wbs (Or.inl ⟨yX,?_⟩) ?_
       rotate_left
       ·(intro w;go_simp;try with_reducible rfl)
       rotate_right
       refine AW 2 (some 100) (v:=?_) rfl rfl tN tN tN Wbs (Or.inl ⟨yX,?_⟩) ?_
       rotate_left
       ·(intro w;go_simp;try with_reducible rfl)
       rotate_right
       refine AW 3 (some 101) (v:=?_) rfl rfl tN tN tN Wbs (Or.inl ⟨yX,?_⟩) ?_
       rotate_left
       ·(intro w;go_simp;try with_reducible rfl)
       rotate_right
       refine AW 4 (some 102) (v:=?_) rfl rfl tN tN tN Wbs (Or.inl ⟨yX,?_⟩) ?_
       rotate_left
       ·(intro w;go_simp;try with_reducible rfl)
       rotate_right
       refine AW 5 (some 103) (v:=?_) rfl rfl tN tN tN Wbs (Or.inl ⟨yX,?_⟩) ?_
       rotate_left
       ·(intro w;go_simp;try with_reducible rfl)
       rotate_right
       refine AW 6 (some 104) (v:=?_) rfl rfl tN tN tN Wbs (Or.inl ⟨yX,?_⟩) ?_
       rotate_left
       ·(intro w;go_simp;try with_reducible rfl)
       rotate_right
       refine AW 7 (some 105) (v:=?_) rfl rfl tN tN tN Wbs (Or.inl ⟨yX,?_⟩) ?_
       rotate_left
       ·(intro w;go_simp;try with_reducible rfl)
       rotate_right
       refine AW 8 (some 106) (v:=?_) rfl rfl tN tN tN Wbs (Or.inl ⟨yX,?_⟩) ?_
       rotate_left
       ·(intro w;go_simp;try with_reducible rfl)
       rotate_right
       refine AW 9 (some 107) (v:=?_) rfl rfl tN tN tN Wbs (Or.inl ⟨yX,?_⟩) ?_
       rotate_left
       ·(intro w;go_simp;try with_reducible rfl)
       rotate_right
       refine AW 11 (some 109) (v:=?_) rfl rfl tN tN tN Wbs (Or.inl ⟨yX,?_⟩) ?_
       rotate_left
       ·(intro w;go_simp;try with_reducible rfl)
       rotate_right
       refine AW 12 (some 110) (v:=?_) rfl rfl tN tN tN Wbs (Or.inl ⟨yX,?_⟩) ?_
       rotate_left
       ·(intro w;go_simp;try with_reducible rfl)
       rotate_right
       refine AW 13 (some 111) (v:=?_) rfl rfl tN tN tN Wbs (Or.inl ⟨yX,?_⟩) ?_
       rotate_left
       ·(intro w;go_simp;try with_reducible rfl)
       rotate_right
       refine AW 14 (some 112) (v:=?_) rfl rfl tN tN tN Wbs (Or.inl ⟨yX,?_⟩) ?_
       rotate_left
       ·(intro w;go_simp;try with_reducible rfl)
       rotate_right
       refine AW 15 (some 113) (v:=?_) rfl rfl tN tN tN Wbs (Or.inl ⟨yX,?_⟩) ?_
       rotate_left
       ·(intro w;go_simp;try with_reducible rfl)
       rotate_right
       refine AW 16 (some 114) (v:=?_) rfl rfl tN tN tN Wbs (Or.inl ⟨yX,?_⟩) ?_
       rotate_left
       ·(intro w;go_simp;try with_reducible rfl)
       rotate_right
       refine Nx (rs:=[10,19]) tN sZ ?_;refine Nt rfl (fun K t=>?_) (Nt rfl (fun K t=>?_) Nv)
       ·go_simp
        go_wp2_with (go_at_call 63;with_reducible refine(ah _).mono ?_;rintro e w3 ⟨rfl,rfl⟩)
        refine Nx (rs:=[17,19]) tN sZ ?_;refine Nt rfl (fun K t=>?_) (Nt rfl (fun K t=>?_) Nv)
        ·go_simp
         go_wp2_with (go_at_call 63;with_reducible refine(hn2 _).mono ?_;rintro e w3 ⟨rfl,rfl⟩)
         refine AW 18 (some 116) (v:=?_) rfl rfl tN tN tN Wbs (Or.inl ⟨yX,?_⟩) ?_
         rotate_left
         ·(intro w;go_simp;try with_reducible rfl)
         rotate_right
         refine Nx (rs:=[19]) tN sZ ?_;refine Nt rfl (fun K t=>?_) Nv
         go_simp
         refine t _ _ ?_;clear t K;refine Nx (rs:=[20]) tN sZ ?_;refine Nt rfl (fun K t=>?_) Nv
         go_simp
         refine t _ _ ?_;clear t K;refine O5 tN ?_ _
         go_wp2
         go_meet
         exact⟨rfl,(A.alloc A.size _).drew,heap_alloc_new w2 _⟩
        ·go_simp
         refine t _ _ ?_;clear t K;exact Wev
       ·go_simp
        refine t _ _ ?_;clear t K;refine Nx (rs:=[10]) tN sZ ?_;refine Nt rfl (fun K t=>?_) Nv
        go_simp
        go_wp2_with (go_at_call 63;with_reducible refine(ah _).mono ?_;rintro e w3 ⟨rfl,rfl⟩)
        exact Wev
      case rest=>
       clear p1 p2 p3 p4 k1 k2 k3 ec ed ee bb ah hn2 S ab dh bp;obtain⟨rfl,bc,au⟩:=hcut;obtain⟨X,hX⟩:=Ah w2.heap.size;have ef:wr.heap.size<=X:=by rw[<-hX];exact A.size
       rw[hX] at au ⊢;have cn:=cr.out _ bc;have d8:B≠X:=by
        intro e;have h1:=(E9.1 cn).1;have h2:=(E9.1 (cr.out _ (Dn _ wr))).1;omega
       obtain⟨x0,x1,x2,y0,y1,y2⟩:=CI au;clear hX A;by_cases ao:127<U
       ·rw[Bb ao] at b9;have t3:decide (127<(U:Int))=true:=tO;have t4:decide (127<U)=true:=by simpa using ao
        have ai:Below wr.heap.size wr (wc.setCell ⟨X,2,none⟩ (.int .i64 ((U:Int)-256))):=bc.setCell ef _;have Y:=aV au ((U:Int)-256);obtain⟨wd,aj⟩:=Ah (wc.setCell ⟨X,2,none⟩ (.int .i64 ((U:Int)-256)));rw[aj] at ai Y;have bd:=Dm aj;clear aj;obtain⟨y,hy⟩:∃y:Int,(U:Int)-256=y:=⟨_,rfl⟩;exact Weu
       ·rw[Ba ao] at b9;have t3:decide (127<(U:Int))=false:=tO;have t4:decide (127<U)=false:=by simpa using ao
        have ai:=bc;have Y:=au;obtain⟨wd,aj⟩:=Ah wc;rw[aj] at ai Y;have bd:=Dm aj;clear aj;obtain⟨y,hy⟩:∃y:Int,(U:Int)=y:=⟨_,rfl⟩;exact Weu
   ·obtain rfl:=br hf;have F:=Dm (V5 (ML (all:=allT) dq.out hf) hf);have g0:(f != 0)=true:=by simpa using hf
    clear aa br hf
    go_wp2
    refine Is (B0 rfl _ _ B 153 _ (0,0) _ rfl (HR ab false 0 0) Kz rfl tN) rfl ?_;exact QQ yW yU
theorem iI (i:Bool)(w:A5):A9 prog 133 #[.bool i] w fun e a=>e=.returned (.int .i64 (BI i:Nat))/\w=a:=by
 cases i
 all_goals
  go_enter func133,ntmps133
  go_wp2
  go_ret
  exact⟨rfl,rfl⟩
theorem Qp {a:Func}{t u v x:Tmp}(h:a.results=#[.tmp t,.tmp u,.tmp v,.tmp x])(tmps:Array A0)(P:Program)(w:A5):
  (results a tmps).run P w=.ok (.tuple #[tmps.getD t undef,tmps.getD u undef,tmps.getD v undef,tmps.getD x undef]) w:=by
 simp[results,h]
def OB (S:List UInt8)(at_:Nat)(i c:Bool)(w:A5)(e:Ending)(a:A5):Prop:=
 ∃(d:Int) (L:List Ev) (f:Int) (t m:Nat) (q:Option Aa) (cap:Nat),btk S at_ i c=(d,L,t,f)/\e=.returned (.tuple #[.int .i64 d,.slice q m cap,.int .i64 (t:Int),.int .i64 f])/\L.length=m/\CX a q L/\CV w.heap.size q/\Below w.heap.size w a
theorem Y4x {S:List UInt8}{at_:Nat}{i c:Bool}{w a:A5}{f:Int}(h:btk S at_ i c=(0,[],at_,f))(b:Below w.heap.size w a):OB S at_ i c w (.returned (.tuple #[.int .i64 0,.slice none 0 0,.int .i64 (at_:Int),.int .i64 f])) a:=
 ⟨0,[],f,at_,0,none,0,h,rfl,rfl,.inl rfl,CV.none _,b⟩
theorem qY {S:List UInt8}{at_ t m cap:Nat}{i c:Bool}{w a:A5}{d:Int}{L:List Ev}{q:Option Aa}(h:btk S at_ i c=(d,L,t,0))(hm:L.length=m)(b:CX a q L)(hr:CV w.heap.size q)(e:Below w.heap.size w a):OB S at_ i c w (.returned (.tuple #[.int .i64 d,.slice q m cap,.int .i64 (t:Int),.int .i64 0])) a:=
 ⟨d,L,0,t,m,q,cap,h,rfl,hm,b,hr,e⟩
set_option maxRecDepth 100000 in
theorem jY (s:ByteArray)(at_:Nat)(i c:Bool)(w:A5)(hs:s.size<=1048576)(ha:at_<=s.size)(C:AH s.data.toList=true):
  A9 prog 99 #[.string s,.int .i64 (at_:Int),.bool i,.bool c] w (OB s.data.toList at_ i c w):=by
 obtain⟨i1,hj,a1,a2,a3⟩:=Ds T3;obtain⟨B,hB⟩:=Ah w.heap.size;have b5:=Dm hB;have a4:B<=w.heap.size:=sX;have ad:=fun x=>iI i x;have M:=fun x (t:Nat) (ht:t<=s.size)=>Y5h s t x hs ht C;unfold Ry at M;have a5:(s.data.toList.drop at_).length=s.size-at_:=by rw[Bf];rfl
 have g:=fun(h:at_+8<=s.size)=>ND (s.extract at_ (at_+8)) (by rw[ByteArray.size_extract];omega) (by rw[Vi];exact ET _ _ (DH _ _ C));rw[Vi] at g;have ah:s.data.toList.length=s.size:=rfl;generalize s.data.toList=S at M a5 g ah C ⊢;have ai:(i=false/\dcT (S.drop at_) i=(0,0,0))\/(i=true/\s.size<at_+8/\dcT (S.drop at_) i=(0,2,0))\/(i=true/\at_+8<=s.size/\∃v:Nat,v<256/\num ((S.drop at_).take 8)=v/\(((v=0\/v=128)/\dcT (S.drop at_) i=(0,7,0))\/(v=255/\dcT (S.drop at_) i=(128,0,8))\/(v≠0/\v≠128/\v≠255/\dcT (S.drop at_) i=((v:Int),0,8)))):=by
  cases i with
  |false=>exact .inl ⟨rfl,rfl⟩
  |true=>
   by_cases h8:s.size<at_+8
   ·exact .inr (.inl ⟨rfl,h8,TC sX⟩)
   ·have u:8<=(S.drop at_).length:=sX;refine .inr (.inr ⟨rfl,sX,num ((S.drop at_).take 8),?_,rfl,?_⟩)
    ·exact K0 (S.drop at_) (DH _ _ C) 8 u
    ·by_cases k:num ((S.drop at_).take 8)=0\/num ((S.drop at_).take 8)=128
     ·exact .inl ⟨k,Tu u k⟩
     ·by_cases O:num ((S.drop at_).take 8)=255
      ·exact .inr (.inl ⟨O,S4 u O⟩)
      ·exact .inr (.inr ⟨fun h=>k (.inl h),fun h=>k (.inr h),O,SH u rfl (fun h=>k (.inl h)) (fun h=>k (.inr h)) O⟩)
 obtain⟨a,Y⟩:=Ah (BI i);have bx:a<=1:=by rw[<-Y];cases i <;> decide
 rw[Y] at ad;have bj:=Dm M;have bz:=Dm ah;have bk:=Dm (fun(d:Int) (n:Nat) (f:Int) (L:List Ev) (e:Nat) (h:dcT (S.drop at_) i=(d,0,n)) (hc:c=true) (he:C4 S (65-a) [] (at_+n) a=(L,f,e)) (Z:f≠0)=>(by subst hc;exact UD h (by rw[Y];exact he) Z:btk S at_ i c=(0,[],at_,f)));have bl:=Dm (fun(d:Int) (n:Nat) (L:List Ev) (t:Nat) (h:dcT (S.drop at_) i=(d,0,n)) (hc:(c=false/\L=[]/\t=at_+n)\/(c=true/\C4 S (65-a) [] (at_+n) a=(L,0,t)))=>(by
  rcases hc with ⟨rfl,rfl,rfl⟩|⟨rfl,he⟩
  ·exact SA h
  ·exact Sp h (by rw[Y];exact he):btk S at_ i c=(d,L,t,0)))
 have bs:=Dm (fun(d f:Int) (n:Nat) (h:dcT (S.drop at_) i=(d,f,n)) (Z:f≠0)=>(Ws h Z:btk S at_ i c=(0,[],at_,f)));have a6:=Dm (fun(f:Int) (x:A5) (h:btk S at_ i c=(0,[],at_,f)) (hb:Below B w x)=>(Y4x h (by rw[hB];exact hb):OB S at_ i c w (.returned (.tuple #[.int .i64 0,.slice none 0 0,.int .i64 (at_:Int),.int .i64 f])) x));have bt:=Dm (fun(d:Int) (L:List Ev) (t m cap:Nat) (q:Option Aa) (x:A5) (h:btk S at_ i c=(d,L,t,0)) (hm:L.length=m) (he:CX x q L) (hr:CV B q) (hb:Below B w x)=>(qY h hm he (by rw[hB];exact hr) (by rw[hB];exact hb):OB S at_ i c w (.returned (.tuple #[.int .i64 d,.slice q m cap,.int .i64 (t:Int),.int .i64 0])) x));have ae:Below B w w:=Dn _ _;obtain⟨b6,a7⟩:=Ah (OB S at_ i c w);rw[a7] at a6 bt ⊢;clear M Y hB a5 C ah a7;rcases ai with ⟨rfl,k⟩|⟨rfl,h8,k⟩|⟨rfl,h8,v,hv,Q,⟨h7,k⟩|⟨rfl,k⟩|⟨n0,a8,a9,k⟩⟩
 case inr.inl=>
  have F:=Dm (a6.out 2 w (bs.out _ _ _ k sY) ae);have t0:decide ((s.size:Int)-(at_:Int)<8)=true:=tO;clear k h8 g
  go_enter func99,ntmps99
  go_wp2
  exact Wey
 case inr.inr.inl=>
  have F:=Dm (a6.out 7 w (bs.out _ _ _ k sY) ae);have t0:decide ((s.size:Int)-(at_:Int)<8)=false:=tO;have D:=g h8;rw[Q] at D;clear k g Q hv;rcases h7 with rfl|rfl
  all_goals
   go_enter func99,ntmps99
   go_wp2_with fail
   refine(D _).mono ?_;rintro e w1 ⟨rfl,rfl⟩
   go_wp2
   exact Wey
 case' inl=>
  obtain⟨T,hT⟩:=Ah at_;have R:=Dm (fun L t=>bl.out _ _ L t k);have J:=Dm (fun f L e=>bk.out _ _ f L e k);rw[show at_+0=T from hT] at R J;have aj:T<=s.size:=sX;have bm:=Dm (show (at_:Int)=(T:Int) by omega);clear g k hT
  go_enter func99,ntmps99
  go_wp2_with fail
  refine(ad _).mono ?_;rintro e w1 ⟨rfl,rfl⟩
  go_wp2
 case' inr.inr.inr.inl=>
  obtain⟨T,hT⟩:=Ah (at_+8);have R:=Dm (fun L t=>bl.out _ _ L t k);have J:=Dm (fun f L e=>bk.out _ _ f L e k);rw[hT] at R J;have aj:T<=s.size:=sX;have bm:=Dm (show (at_:Int)+8=(T:Int) by omega);have t0:decide ((s.size:Int)-(at_:Int)<8)=false:=tO;have D:=g h8;rw[Q] at D;clear k g Q hv hT
  go_enter func99,ntmps99
  go_wp2_with fail
  refine(D _).mono ?_;rintro e w1 ⟨rfl,rfl⟩
  go_wp2_with fail
  refine(ad _).mono ?_;rintro e w1 ⟨rfl,rfl⟩
  go_wp2
 case' inr.inr.inr.inr=>
  obtain⟨T,hT⟩:=Ah (at_+8);have R:=Dm (fun L t=>bl.out _ _ L t k);have J:=Dm (fun f L e=>bk.out _ _ f L e k);rw[hT] at R J;have aj:T<=s.size:=sX;have bm:=Dm (show (at_:Int)+8=(T:Int) by omega);have t0:decide ((s.size:Int)-(at_:Int)<8)=false:=tO;have g0:((v:Int)==0)=false:=uC;have g1:((v:Int)==128)=false:=uC;have g2:((v:Int)==255)=false:=uC;have D:=g h8;rw[Q] at D;clear k g Q n0 a8 a9 hT
  go_enter func99,ntmps99
  go_wp2_with fail
  refine(D _).mono ?_;rintro e w1 ⟨rfl,rfl⟩
  go_wp2_with fail
  refine(ad _).mono ?_;rintro e w1 ⟨rfl,rfl⟩
  go_wp2
 all_goals
  go_loopw [3,13,14,15] (fun u3 u13 u14 u15 wr=>∃(b:Bool) (acc:List Ev) (m t:Nat) (z:Int),u3=.bool b/\u13=.int .i64 (t:Int)/\u15=.int .i64 z/\Hid (z+1=(m:Int))∧-1<=z/\z<=63/\t<=s.size/\acc.length<=m/\wr.ownsRow B 153 3 u14 acc.length (HG acc)/\Hid ((b=true->c=true/\EvR S a T acc m t)/\(b=false->(c=false/\acc=[]/\t=T)\/(c=true/\C4 S (65-a) [] T a=(acc,0,t))))/\Below B w wr/\B<=wr.heap.size) (fun _ _ _ u15 _=>(64-RowKit.intOf u15).toNat)
  case atStart=>exact⟨c,[],a,T,(a:Int)-1,rfl,by rw[bm.out],rfl,Dm sX,sX,sX,aj,Do _,Dj _ _ _ _,Dm ⟨fun h=>⟨h,EvR.first _ _ _⟩,fun h=>.inl ⟨h,rfl,rfl⟩⟩,ae,a4⟩
  case round=>
   clear ae a4;obtain⟨b,acc,m,t,z,rfl,rfl,rfl,K,b0,b1,bo,ba,y,U,hb,hz⟩:=hrel;have P:m<=64:=by have:=K.out;omega
   obtain⟨al,A⟩:=Ah acc.length;have bu:=Dm A;cases b with
   |false=>
    obtain⟨q,cap,rfl,bb⟩:=ZN y;have F:=Dm (bt.out _ acc t al cap q wr (R.out acc t (U.out.2 rfl)) A bb (aT y) hb);rw[A];clear A bb y U hb ba
    go_wp2
    exact Wey
   |true=>
    obtain⟨hc,U⟩:=U.out.1 rfl;obtain⟨⟨l,r,v⟩,f,n,E⟩:∃x f n,etk (S.drop t)=(x,f,n):=⟨_,_,_,rfl⟩;obtain⟨bv,bc⟩:=UJ E;have u:=bj.out wr t bo;rw[E] at u;simp only[NC] at u;rw[A] at y ba;have V:=Dm E;have ST:=Dm U;have bi:=Dm hc;have bd:=Dm (fun(x:A5) (hx:Below wr.heap.size wr x)=>(⟨hb.trans (hx.mono hz),Ef hz hx.size,y.kept (BF hx none) (Kt _)⟩:Below B w x/\B<=x.heap.size/\x.ownsRow B 153 3 u14 al (HG acc)));have am:t+n<=s.size:=by rw[Bf] at bc;have:=bz.out;omega
    obtain⟨t2,an⟩:=Ah (t+n);have bf:=Dm an;rw[an] at u am;clear E bc y U A hc an hb hz
    go_wp2_with fail
    refine u.mono ?_;rintro e w1 ⟨rfl,bg⟩;obtain⟨W,ag,j⟩:=bd.out _ bg;clear bg u bd;by_cases Z:f=0
    ·have g0:(f != 0)=false:=by simpa using Z
     have E:=V.out;rw[Z] at E;have V:=Dm E;clear Z E;obtain⟨X,hX⟩:=Ah w1.heap.size;obtain⟨wx,G⟩:=Ah (w1.alloc (.cells #[.bool l,.int .i64 (r:Int),.int .i64 v] 153 (0,0)));have bh:wx.heap.size=X+1:=by rw[<-G,<-hX];simp
     have ab:wx.heap[X]? =some (BD l (r:Int) v):=by rw[<-G,<-hX];exact heap_alloc_new w1 _
     have H:Below B w wx:=by rw[<-G];exact W.alloc ag _
     have ao:wx.ownsRow B 153 3 u14 al (HG acc):=by rw[<-G];exact j.alloc _
     have ac:∀q,Value.ownBlock u14=some q->B<=q/\q<X:=fun q hq=>by have:=j.lt q hq;omega
     have bw:=Dm hX;have ap:=Dm G;have aq:=Dm (show B<=X by omega);have ar:=Dm (fun(x:A5) (o:Obj) (hx:(wx.alloc o).grownBy x (Value.ownBlock u14))=>(by
      have hb:Below B w x:=(H.alloc (by have:=aq.out;omega) o).grown hx (by simp;have:=aq.out;omega) (fun q hq=>(ac q hq).1);have bp:x.heap[X]? =some (BD l (r:Int) v):=by
       rw[hx.block X tO (fun e=>by have:=(ac X e.symm).2;omega)];exact BM ab
      have b2:wx.heap.size+1<=x.heap.size:=by have:=hx.size;simpa using this
      exact⟨hb,by have:=aq.out;omega,bp⟩:Below B w x/\B<=x.heap.size/\x.heap[X]? =some (BD l (r:Int) v)))
     obtain⟨c0,c1,c2,_,_,_⟩:=CI ab;have b3:B<=wx.heap.size:=sX;by_cases af:63<m+r
     ·have t3:decide (63<z+(r:Int)+1)=true:=by have:=K.out;simp;omega
      have F:=Dm (a6.out 7 wx (J.out 7 _ _ bi.out (ST.out.far P V.out af) sY) H);clear af G hX H ab ac W j ar ao
      go_wp2
      rw[ap.out];exact Wey
     ·have t3:decide (63<z+(r:Int)+1)=false:=by have:=K.out;simp;omega
      cases l with
      |true=>
       have b4:=Dm (ST.out.end P V.out sX);have I:=Dm (show (acc++[(true,(r:Int),v)]).length=al+1 by rw[B8,bu.out];rfl);have au:=Dm (Tb acc (true,(r:Int),v));have bq:=Dm (show z+(r:Int)+1+1=((m+r+1:Nat):Int) by have:=K.out;omega);have av:z+(r:Int)+1<=63:=by have:=K.out;omega
       clear af G hX H ab ac W j
       go_wp2_with (at_builtin;rw[ap.out,bw.out,<-bh];refine O1 (y0:=true) (y1:=(r:Int)) (y2:=v) rfl rfl L6 hj a1 rfl a2 a3 rfl (ao.alloc _) rfl ?d1 ?d2 ?d3 ?d4 ?d5 ?_;(case d1=>go_cell);(case d2=>go_cell);(case d3=>go_cell);(case d4=>omega);(case d5=>(simp;omega));intro v2 w2 aw p ax;clear ax;obtain⟨ay,az,a0⟩:=ar.out _ _ p;obtain⟨e0,e1,e2,_,_,_⟩:=CI a0;clear p)
       go_roundw
       case rel=>exact⟨false,acc++[(true,(r:Int),v)],m+r+1,t2,z+(r:Int)+1,rfl,rfl,rfl,bq,sX,av,am,by rw[I.out];omega,by rw[I.out,au.out];exact aw,Dm ⟨fun h=>uA,fun _=>.inr ⟨bi.out,by rw[b4.out,bf.out]⟩⟩,ay,az⟩
       case measure=>simp[RowKit.intOf];omega
      |false=>
       have N:=Dm (ST.out.on P V.out sX);have I:=Dm (show (acc++[(false,(r:Int),v)]).length=al+1 by rw[B8,bu.out];rfl);have au:=Dm (Tb acc (false,(r:Int),v));have bq:=Dm (show z+(r:Int)+1+1=((m+r+1:Nat):Int) by have:=K.out;omega);have av:z+(r:Int)+1<=63:=by have:=K.out;omega
       clear af G hX H ab ac W j
       go_wp2_with (at_builtin;rw[ap.out,bw.out,<-bh];refine O1 (y0:=false) (y1:=(r:Int)) (y2:=v) rfl rfl L6 hj a1 rfl a2 a3 rfl (ao.alloc _) rfl ?d1 ?d2 ?d3 ?d4 ?d5 ?_;(case d1=>go_cell);(case d2=>go_cell);(case d3=>go_cell);(case d4=>omega);(case d5=>(simp;omega));intro v2 w2 aw p ax;clear ax;obtain⟨ay,az,a0⟩:=ar.out _ _ p;obtain⟨e0,e1,e2,_,_,_⟩:=CI a0;clear p)
       go_roundw
       case rel=>exact⟨true,acc++[(false,(r:Int),v)],m+r+1,t2,z+(r:Int)+1,rfl,rfl,rfl,bq,sX,av,am,by rw[I.out];omega,by rw[I.out,au.out];exact aw,Dm ⟨fun _=>⟨bi.out,by rw[<-bf.out];exact N.out⟩,fun h=>uA⟩,ay,az⟩
       case measure=>simp[RowKit.intOf];omega
    ·have g0:(f != 0)=true:=by simpa using Z
     have F:=Dm (fun(x:A5) (hx:Below B w x)=>a6.out f x (J.out f _ _ bi.out (ST.out.err P V.out Z) Z) hx);have H:=W.alloc ag (.cells #[.bool l,.int .i64 (r:Int),.int .i64 v] 153 (0,0));have br:=Dm H;clear Z H W j
     go_wp2
     refine Is (Qp rfl _ _ _) rfl ?_;exact F.out _ br.out
end Go.Proofs.YtjjmalchelniiaaGreatDoor