/- StripsChecks, 41. No condition. -/
import Derived.Test.YtjjmalchelniiaaGreatDoorStripsChecksMa
import Derived.Test.YtjjmalchelniiaaGreatDoorStripsChecksMm
import Derived.Test.YtjjmalchelniiaaGreatDoorStripsChecksMv
import Derived.Test.YtjjmalchelniiaaGreatDoorStripsChecksMw
import Derived.Test.YtjjmalchelniiaaGreatDoorStripsChecksMx
import Derived.Test.YtjjmalchelniiaaGreatDoorStripsChecksMba
import Derived.Test.YtjjmalchelniiaaGreatDoorStripsChecksMbm
import Derived.Test.YtjjmalchelniiaaGreatDoorStripsChecksMbn
open Go.Proofs.Tryz
open Go renaming World->A5,Calls->A9
set_option maxHeartbeats 2000000
namespace Go.Proofs.YtjjmalchelniiaaGreatDoor
section
open Go.RowKit Go.Lib Go.Shelf
abbrev Nf:=@ntmps204
theorem vJ:Builder.Extra prog Tryz.lJoin_ren where
 sizeBuilder:=by kernel_rfl
 liesBuilder:=by kernel_rfl
 t5:=Du
 a5:=isAgg5
 z5:=sizeOf5
 v5:=zeroValue5
 infoByte:=by kernel_rfl
 cellsByte:=by kernel_rfl
 sizeByte:=by kernel_rfl
 neB5:=by decide
def OW (l:List ByteArray):List UInt8:=(l.map (·.data.toList)).flatten
theorem lJ:∀l:List (List UInt8),Lib.join l []=l.flatten
 |[]=>rfl
 |[x]=>by rw[Lib.join_one];simp
 |x::y::r=>by
  rw[Lib.join_cons];simp[Lib.joinTail]
theorem mF {w:A5}{base e:Nat}{v:Value}{l:List ByteArray}(h:w.ownsRow base e 1 v l.length (K3 l))(c:0<l.length):
  ∃(b cap:Nat),v=.slice (some ⟨b,0,none⟩) l.length cap/\l.length<=cap/\b<w.heap.size/\∀(j:Nat) x,l[j]? =some x->w.cell? ⟨b,j,none⟩=some (.string x):=by
 have c:=h;rcases h.2 with ⟨rfl,h1⟩|⟨g,cap,d,rfl,_,f,a⟩
 ·omega
 ·refine⟨g,cap,rfl,by first|exact a.1|exact a.2.1|omega,(An.1 f).1,fun i x hi=>?_⟩;have:=Di (g:=g) c rfl i (.string x) (by simp[K3,hi]);rwa [Gd,As] at this
theorem mP (b c:Nat)(l:List ByteArray)(w:A5)(a:∀(j:Nat) x,l[j]? =some x->w.cell? ⟨b,j,none⟩=some (.string x))(d:b<w.heap.size)(hc:l.length<=c)(hn:l.length<=1048576)(hl:(OW l).length<=1048576):
  A9 prog 208 #[.slice (some ⟨b,0,none⟩) l.length c,.string ⟨#[]⟩] w fun e f=>e=.returned (.string ⟨(OW l).toArray⟩)/\Below w.heap.size w f:=by
 have h:=Any.strings_Join Tryz.lJoin vJ b 0 c l ⟨#[]⟩ w (fun j x hj=>by rw[As];exact a j x hj) d (by omega) hc;rw[show (⟨#[]⟩:ByteArray).data.toList=[] from rfl,lJ] at h;exact h (by have:(OW l).length=(l.map (·.data.toList)).flatten.length:=rfl;omega)
end
section
open Go.RowKit Go.Lib
theorem Y7 (i:Bool)(d:Int)(w:A5)(h:H6 i d=true):A9 prog 204 #[.bool i,.int .i64 d] w fun e g=>e=.returned (.tuple #[.string ⟨(dcB i d).toArray⟩,.int .i64 0])/\Below w.heap.size w g:=by
 cases i with
 |false=>
  have c:d=0:=by simpa [H6] using h
  subst c
  go_enter func204,Nf
  go_wp2
  go_ret2
  exact⟨rfl,Dm _ _⟩
 |true=>
  have c:1<=d/\d<=254:=by simpa [H6] using h
  obtain⟨h1,h2⟩:=c;have t0:decide (d<1)=false:=by simp;omega
  have t1:decide (254<d)=false:=by simp;omega
  by_cases b:d=128
  ·subst b;have a:=fun x=>PB 255 8 x (by decide) (by decide +kernel);have F:=Dl (show (⟨(dcB true 128).toArray⟩:ByteArray)=⟨(AI (255:Int).toNat (8:Int).toNat).toArray⟩ from rfl);rw[F.out];generalize (⟨(AI (255:Int).toNat (8:Int).toNat).toArray⟩:ByteArray)=y at a ⊢
   go_enter func204,Nf
   go_wp2_with fail
   refine(a _).mono ?_;rintro e j ⟨rfl,f⟩
   go_wp2
   go_ret2
   exact⟨rfl,f⟩
  ·have k:(d==128)=false:=by rw[Ez];exact b
   have a:=fun x=>PB d 8 x (by omega) (by
    unfold EG;rw[Fb];refine⟨by omega,by omega,by omega,?_⟩;rw[show (2:Int)^(8:Int).toNat=256 from rfl];omega)
   have F:=Dl (show (⟨(dcB true d).toArray⟩:ByteArray)=⟨(AI d.toNat (8:Int).toNat).toArray⟩ by unfold dcB;rw[Bc rfl,Bb b];rfl);rw[F.out];generalize (⟨(AI d.toNat (8:Int).toNat).toArray⟩:ByteArray)=y at a ⊢;clear b h h1 h2 F
   go_enter func204,Nf
   go_wp2_with fail
   refine(a _).mono ?_;rintro e j ⟨rfl,f⟩
   go_wp2
   go_ret2
   exact⟨rfl,f⟩
theorem xR (i:Bool)(d:Int)(w:A5)(h:H6 i d=false):A9 prog 204 #[.bool i,.int .i64 d] w fun e a=>e=.returned (.tuple #[.string ⟨#[]⟩,.int .i64 7])/\w=a:=by
 cases i with
 |false=>
  have b:(d==0)=false:=h;clear h
  go_enter func204,Nf
  go_wp2
  go_ret2
  exact⟨rfl,rfl⟩
 |true=>
  by_cases h1:d<1
  ·have t0:decide (d<1)=true:=by simpa using h1
   clear h
   go_enter func204,Nf
   go_wp2
   go_ret2
   exact⟨rfl,rfl⟩
  ·have t0:decide (d<1)=false:=by simpa using h1
   have t1:decide (254<d)=true:=by
    have h2:(decide (1<=d)&&decide (d<=254))=false:=h;rw[Gq (by omega:1<=d),Gw,G3] at h2;simp;omega
   clear h h1
   go_enter func204,Nf
   go_wp2
   go_ret2
   exact⟨rfl,rfl⟩
def GV (i:Bool)(d:Int)(l:List Ev):List ByteArray:=⟨(dcB i d).toArray⟩::l.map DO
theorem sY (i:Bool)(d:Int)(l:List Ev):OW (GV i d l)=C4 i d l:=by
 unfold OW GV C4 BK;rw[Ci,List.flatten_cons,List.map_map,List.flatMap]
 rfl
theorem tF (i:Bool)(d:Int)(l:List Ev):(GV i d l).length=l.length+1:=by simp[GV]
theorem lW (i:Bool)(d:Int)(l:List Ev)(x:Ev):GV i d (l++[x])=GV i d l++[DO x]:=by simp[GV]
theorem iT (x:Ev)(h:DY x.2.1 x.2.2=true):(!(FC x.1 x.2.1 x.2.2).data.toList.isEmpty)=true:=by
 obtain⟨b,r1,_⟩:=KS.1 h;have h3:=QN x.1 x.2.1.toNat x.2.2 (by omega);unfold FC;rw[Bc h];show (!(AI _ _).isEmpty)=true;cases hl:AI (D6 x.1 x.2.1.toNat x.2.2) (D4 x.1 x.2.1.toNat x.2.2) with
 |nil=>
  have e:=BN (D6 x.1 x.2.1.toNat x.2.2) (D4 x.1 x.2.1.toNat x.2.2);rw[hl,By] at e;omega
 |cons a l=>rfl
set_option maxRecDepth 100000 in
theorem yZ (i:Bool)(d:Int)(p:Option Addr)(l:List Ev)(c:Nat)(w:A5)(hp:CE w p l)(hT:BD w)(hm:CI i d l=true):
  A9 prog 189 #[.bool i,.int .i64 d,.slice p l.length c] w fun e w'=>e=.returned (.tuple #[.string ⟨(C4 i d l).toArray⟩,.int .i64 0])/\Below w.heap.size w w':=by
 obtain⟨hd,K⟩:=PW hm;have ah:=Qs K;obtain⟨i0,hi,aw,ax,ay⟩:=Dr kR;obtain⟨B,hB⟩:=Ai w.heap.size;have R:=fun x=>S3 i x;have t:=fun(x:A5) (S:Below w.heap.size w x)=>Yh p l c ((AZ i:Nat):Int) x (hp.below S) (by omega);unfold MV at t;rw[UV K] at t;have A:=N7 (lvG l ((AZ i:Nat):Int)).1
 have T:(prog.info? 180).map (·.size)=some (CQ (lvG l ((AZ i:Nat):Int)).1).size:=MS _;obtain⟨Y,hY⟩:=Ai (CQ (fun _=>0));have az:∀w,(zeroValue 180).run prog w=.ok (.agg Y) w:=by rw[<-hY];exact P0
 have U:Y.size=(CQ (lvG l ((AZ i:Nat):Int)).1).size:=by rw[<-hY,JG,JG]
 generalize CQ (lvG l ((AZ i:Nat):Int)).1=Z at t A T U;generalize ((AZ i:Nat):Int)=fr at R t;have V:=fun x=>Y7 i d x hd;obtain⟨y0,W⟩:∃y0:ByteArray,⟨(dcB i d).toArray⟩=y0:=⟨_,rfl⟩;rw[W] at V;have a0:=Dl t;have bi:=Dl (fun(x:A5) (S:Below B w x)=>(hp.below (by rw[hB];exact S):CE x p l))
 have bj:=Dl (fun(x:A5) (S:Below B w x)=>(hT.below (by rw[hB];exact S):BD x));have a1:=Dl (show∀j,(h:j<l.length)->(!(FC l[j].1 l[j].2.1 l[j].2.2).data.toList.isEmpty)=true from fun j h=>iT _ (pB K h));have ai:=Dl (sY i d l);have a2:=Dl (SA i d l);have a3:=Dl (show GV i d []=[y0] by rw[<-W];rfl)
 have a4:=Dl (fun(j:Nat) (h:j<l.length)=>(by rw[Bd h,lW]:GV i d (l.take (j+1))=GV i d (l.take j)++[DO l[j]]));have a5:=Dl hB;obtain⟨n,hn⟩:=Ai l.length;have av:=Dl hn;have a6:=Dl (fun(j:Nat) (h:j<=n)=>(by rw[tF,Be];omega:(GV i d (l.take j)).length=j+1));rw[hn] at ah ⊢
 generalize aj:(⟨(C4 i d l).toArray⟩:ByteArray)=RB;have a7:=Dl aj;clear hp hT t hY hd K hm W hB hn aj
 go_enter func189,ntmps189
 go_wp2_with fail
 refine(V _).mono ?_;rintro e w1 ⟨rfl,a⟩
 go_wp2_with fail
 refine(R _).mono ?_;rintro e L ⟨rfl,rfl⟩
 go_wp2_with fail
 have C:=a0.out _ a;rw[av.out] at C;refine C.mono ?_;rintro e L ⟨rfl,r⟩;rw[a5.out] at a;have D:B<=w1.heap.size:=by rw[<-a5.out];exact a.size
 have ak:=a.trans (r.mono D);have al:B<=L.heap.size:=Ea D r.size;obtain⟨X,hX⟩:=Ai L.heap.size;have M:=heap_alloc_new L (.cells Y 180 (0,0));have E:=ak.alloc al (.cells Y 180 (0,0));have Q:(L.alloc (.cells Y 180 (0,0))).heap.size=X+1:=by simp;omega
 rw[hX] at M;generalize am:L.alloc (.cells Y 180 (0,0))=w4 at M E Q;have a8:=Dl am;have a9:=Dl hX;have u:=Dl (show B<=X by omega);clear am hX a r ak al D C V R
 go_wp2_with (rw[a8.out,a9.out];with_reducible refine B2 rfl 180 _ _ rfl X Z Y rfl rfl 180 M T U A ?_;intro w5 ba aa;clear az)
 have an:=E.grown aa (by have:=u.out;omega) (fun k hk=>by injection hk with hk;have:=u.out;omega);have ab:B<=w5.heap.size:=by have:=u.out;have:=aa.size;omega
 have f:(w5.alloc (.cells #[.string y0] 9 (0,0))).ownsRow B 9 1 (.slice (some ⟨w5.heap.size,0,none⟩) 1 1) 1 (K3 [y0]):=World.ownsRow_lit w5 #[.string y0] 1 ab (by unfold maxLen;omega) rfl;have ac:=an.alloc ab (.cells #[.string y0] 9 (0,0));have ad:B<=(w5.alloc (.cells #[.string y0] 9 (0,0))).heap.size:=by simp;omega
 generalize w5.alloc (.cells #[.string y0] 9 (0,0))=w7 at f ac ad ⊢;generalize w5.heap.size=bk at f ⊢;clear M E Q ba aa an ab T A U
 go_loopw [12,40] (fun v z wr=>∃j:Nat,j<=n/\z=.int .i64 j/\wr.ownsRow B 9 1 v (j+1) (K3 (GV i d (l.take j)))/\Below B w wr/\B<=wr.heap.size) (fun _ z _=>n-(RowKit.intOf z).toNat)
 case atStart=>exact⟨0,Dn _,rfl,by rw[Bk,a3.out];exact f,ac,ad⟩
 case round=>
  clear f ac ad;obtain⟨j,hj,rfl,m,hb,hz⟩:=hrel;by_cases ao:j<n
  ·have t0:decide ((j:Int)<(n:Int))=true:=by simp;omega
   have t1:decide (j<n)=true:=by simpa using ao
   have O:j<l.length:=by rw[av.out];exact ao
   obtain⟨b,o,rfl,bb,hc⟩:=(bi.out _ hb).at (by omega);obtain⟨c0,c1,c2⟩:=hc j O;have P:=a1.out j O;have F:=a4.out j O;obtain⟨⟨x0,x1,x2⟩,ap⟩:=Ai (l[j]);rw[ap] at c0 c1 c2 P F;simp only at c0 c1 c2 P;rw[show DO (x0,x1,x2)=FC x0 x1 x2 from rfl] at F;have s:=fun x S=>nJ x0 x1 x2 x S;rw[P] at s;generalize FC x0 x1 x2=y at s F
   have N:=Dl (show K3 (GV i d (l.take (j+1)))=K3 (GV i d (l.take j))++[.string y] by rw[F,jU]);obtain⟨X,hX⟩:=Ai wr.heap.size;obtain⟨wx,G⟩:=Ai (wr.alloc (.cells #[.bool x0,.int .i64 x1,.int .i64 x2] 153 (0,0)));have bc:wx.heap.size=X+1:=by rw[<-G,<-hX];simp
   have ae:Below B w wx:=by rw[<-G];exact hb.alloc (by omega) _
   have aq:wx.ownsRow B 9 1 u12 (j+1) (K3 (GV i d (l.take j))):=by rw[<-G];exact m.alloc _
   have a9:=Dl hX;have bd:=Dl G;have u:=Dl (show B<=X by omega);clear hX G hc bb ap F P O m hb
   go_wp2_with fail
   rw[bd.out,a9.out];refine(s _ (bj.out _ ae)).mono ?_;rintro e w1 ⟨rfl,a⟩;have r:=ae.trans (a.mono (by have:=u.out;omega));have bf:B<=w1.heap.size:=by have:=a.size;have:=u.out;omega
   have ar:=aq.kept (BR a none) (Classical.em _);clear ae aq a s bc
   go_wp2_with (at_builtin;refine aA (y0:=y) rfl rfl underlying163 hi aw rfl ax ay rfl (ar.alloc _) rfl ?d1 ?d2 ?d3 ?_;(case d1=>go_cell);(case d2=>omega);(case d3=>(simp;omega));intro v2 L bg H;have au:World.grownBy _ L (Value.ownBlock u12):=H;have E:=(r.alloc bf _).grown au (by simp;omega) (fun q hq=>(ar.lt q hq).1);have bh:B<=L.heap.size:=Ea (by simp;omega) au.size;clear H)
   go_roundw
   case rel=>exact⟨j+1,by omega,by go_num,by rw[N.out];exact bg,E,bh⟩
   case measure=>simp[RowKit.intOf];omega
  ·obtain rfl:j=n:=by omega
   have t0:decide ((j:Int)<(j:Int))=false:=by simp
   have t1:decide (j<j)=false:=by simp
   have I:=a6.out j (Ba _);rw[<-I] at m;obtain⟨g,cap,rfl,J,hg,af⟩:=mF m (by omega);have ag:l.take j=l:=by rw[<-av.out];exact Jv
   rw[ag] at af J I;have hj:=mP g cap (GV i d l) wr af hg J (by omega) (by rw[ai.out];have:=a2.out;rw[av.out] at this;omega);rw[ai.out,a7.out] at hj;rw[ag];rw[I] at hj ⊢;clear m af J ag
   go_wp2_with fail
   refine hj.mono ?_;rintro e w1 ⟨rfl,a⟩;have r:=hb.trans (a.mono hz)
   go_wp2
   go_ret2
   exact⟨rfl,by rw[a5.out];exact r⟩
set_option maxRecDepth 100000 in
theorem rK (i:Bool)(d:Int)(p:Option Addr)(l:List Ev)(c:Nat)(w:A5)(G:CE w p l)(s:l.length<=140737488355328)(hm:CI i d l=false):
  A9 prog 189 #[.bool i,.int .i64 d,.slice p l.length c] w fun e S=>e=.returned (.tuple #[.string ⟨#[]⟩,.int .i64 7])/\Below w.heap.size w S:=by
 cases hd:H6 i d with
 |false=>
  have b:=fun x=>xR i d x hd;generalize l.length=n;clear G hm hd s
  go_enter func189,ntmps189
  go_wp2_with fail
  refine(b _).mono ?_;rintro e P ⟨rfl,rfl⟩
  go_wp2
  go_ret2
  exact⟨rfl,Dm _ _⟩
 |true=>
  have t:D7 (AZ i) l l.length=true:=by
   unfold CI at hm;rw[hd,Gw,Bool.not_eq_false'] at hm;exact hm
  obtain⟨B,Q⟩:=Ai w.heap.size;have m:=fun x=>S3 i x;have a:=fun(x:A5) (T:Below w.heap.size w x)=>Yh p l c ((AZ i:Nat):Int) x (G.below T) (by omega);unfold MV at a;rw[YS t] at a;have j:=N7 (lvG l ((AZ i:Nat):Int)).1;have u:(prog.info? 180).map (·.size)=some (CQ (lvG l ((AZ i:Nat):Int)).1).size:=MS _;obtain⟨Y,H⟩:=Ai (CQ (fun _=>0))
  have I:∀w,(zeroValue 180).run prog w=.ok (.agg Y) w:=by rw[<-H];exact P0
  have v:Y.size=(CQ (lvG l ((AZ i:Nat):Int)).1).size:=by rw[<-H,JG,JG]
  generalize CQ (lvG l ((AZ i:Nat):Int)).1=Z at a j u v;generalize ((AZ i:Nat):Int)=fr at m a;have b:=fun x=>Y7 i d x hd;obtain⟨y0,y⟩:∃y0:ByteArray,⟨(dcB i d).toArray⟩=y0:=⟨_,rfl⟩;rw[y] at b;have J:=Dl a;have K:=Dl Q;obtain⟨n,hn⟩:=Ai l.length;have U:=Dl hn;rw[hn];clear G a H hd t hm y Q hn s
  go_enter func189,ntmps189
  go_wp2_with fail
  refine(b _).mono ?_;rintro e P ⟨rfl,f⟩
  go_wp2_with fail
  refine(m _).mono ?_;rintro e r ⟨rfl,rfl⟩
  go_wp2_with fail
  have g:=J.out _ f;rw[U.out] at g;refine g.mono ?_;rintro e r ⟨rfl,o⟩;rw[K.out] at f;have h:B<=P.heap.size:=by rw[<-K.out];exact f.size
  have z:=f.trans (o.mono h);have A:B<=r.heap.size:=Ea h o.size;obtain⟨X,L⟩:=Ai r.heap.size;have q:=heap_alloc_new r (.cells Y 180 (0,0));have C:=z.alloc A (.cells Y 180 (0,0));have D:(r.alloc (.cells Y 180 (0,0))).heap.size=X+1:=by simp;omega
  rw[L] at q;generalize E:r.alloc (.cells Y 180 (0,0))=w4 at q C D;have M:=Dl E;have V:=Dl L;have F:=Dl (show B<=X by omega);clear E L f o z A h g b m
  go_wp2_with (rw[M.out,V.out];with_reducible refine B2 rfl 180 _ _ rfl X Z Y rfl rfl 180 q u v j ?_;intro w5 W N;clear I)
  have O:=C.grown N (by have:=F.out;omega) (fun k R=>by injection R with R;have:=F.out;omega)
  go_ret2
  exact⟨rfl,by rw[K.out];exact O⟩
theorem mM (i:Bool)(d:Int)(p:Option Addr)(l:List Ev)(c b:Nat)(w:A5)(g:CE w p l)(a:l.length<=140737488355328)(hm:CI i d l=false):
  A9 prog 172 #[.pointer (some ⟨b,0,none⟩),.bool i,.int .i64 d,.slice p l.length c] w fun e j=>e=.returned (.int .i64 7)/\Below w.heap.size w j:=by
 have h:=rK i d p l c w g a hm;generalize l.length=n at h ⊢
 go_enter func172,ntmps172
 go_wp2_with fail
 refine h.mono ?_;rintro e k ⟨rfl,f⟩
 go_wp2
 go_ret
 exact⟨rfl,f⟩
theorem rS (i:Bool)(d:Int)(p:Option Addr)(l:List Ev)(c B b:Nat)(r:List UInt8)(w:A5)(z:AN w B b r)(hn:r.length<=274877906944)(A:B<=w.heap.size)(C:CE w p l)(D:BD w)(hm:CI i d l=true):
  A9 prog 172 #[.pointer (some ⟨b,0,none⟩),.bool i,.int .i64 d,.slice p l.length c] w fun e E=>e=.returned (.int .i64 0)/\AN E B b (r++C4 i d l)/\w.grownBy E (some b):=by
 have h:=yZ i d p l c w C D hm;have g:=Qs (PW hm).2;have o:=SA i d l;have j:=U5 i d l;have q:=Dl j;have a:=fun(x:A5) (m:AN x B b r) (G:B<=x.heap.size)=>TO x B b r ⟨(C4 i d l).toArray⟩ m (by simpa using q.out) (by show r.length+(C4 i d l).toArray.size<=_;simp;omega) G;have f:(⟨(C4 i d l).toArray⟩:ByteArray).data.toList=C4 i d l:=by simp
 rw[f] at a;have F:=Dl a;have s:=Dl (fun(x:A5) (m:Below w.heap.size w x)=>(⟨z.below m,Ea A m.size⟩:AN x B b r/\B<=x.heap.size));generalize (⟨(C4 i d l).toArray⟩:ByteArray)=H at h a F;generalize l.length=n at h ⊢;clear a z hn A C D hm g o j f
 go_enter func172,ntmps172
 go_wp2_with fail
 refine h.mono ?_;rintro e I ⟨rfl,k⟩;obtain⟨t,u⟩:=s.out _ k
 go_wp2_with fail
 refine(F.out _ t u).mono ?_;rintro e J ⟨rfl,v,y⟩
 go_wp2
 go_ret
 exact⟨rfl,v,AO (BR k _) y⟩
set_option maxRecDepth 100000 in
theorem qI (c:Cel)(sl:Nat->Value)(w:A5)(hs:GQ w):A9 prog 117 #[.agg (AF c sl).toArray] w fun e i=>e=.returned (.bool (EV c.kind c.step))/\Below w.heap.size w i:=by
 have b:=fun x (j:Below w.heap.size w x)=>Ur c.step x (hs.below j);obtain⟨A,g,f0,f1,f2,f3,f4,f5,-,-⟩:=IJ c sl;rw[g];have a:=(Dm _ w).alloc (Ba _) (.cells A 77 (0,0));have H:=b _ a;have f:Hid (EV c.kind c.step=if (c.kind==1 || c.kind==4) then !(CJ c.step).data.toList.isEmpty else c.step==0):=Dl rfl;clear g b hs;generalize EV c.kind c.step=z at *
 generalize (!(CJ c.step).data.toList.isEmpty)=l at *;generalize c.kind=h at *;generalize c.step=m at *;cases t0:(h==1) with
 |true=>
  rw[t0] at f
  go_enter func117,ntmps117
  go_wp2_with fail
  refine H.mono ?_;rintro e k ⟨rfl,d⟩
  go_wp2
  go_ret
  exact⟨AB (by rw[f.out];rfl),a.trans (d.mono a.size)⟩
 |false=>
  cases t1:(h==4) with
  |true=>
   rw[t0,t1] at f
   go_enter func117,ntmps117
   go_wp2_with fail
   refine H.mono ?_;rintro e k ⟨rfl,d⟩
   go_wp2
   go_ret
   exact⟨AB (by rw[f.out];rfl),a.trans (d.mono a.size)⟩
  |false=>
   rw[t0,t1] at f
   go_enter func117,ntmps117
   go_wp2
   go_ret
   exact⟨AB (by rw[f.out];rfl),a⟩
set_option maxRecDepth 100000 in
theorem iC (c:Cel)(sl:Nat->Value)(w:A5):A9 prog 118 #[.agg (AF c sl).toArray] w fun e H=>e=.returned (.bool (H4 c.kind c.mx c.my))/\Below w.heap.size w H:=by
 have f:=fun x=>RP c sl x;have n:=fun x=>TS c.mx c.my x;have o:=fun x=>S5 c.mx c.my x;have M:=Qd c.mx c.my (AM c.mx) (AM c.my);have l:Hid (H4 c.kind c.mx c.my=if AE c.kind then c.mx==0&&c.my==0 else c.mx==AM c.mx&&c.my==AM c.my):=Dl rfl;obtain⟨A,m,f0,f1,f2,f3,f4,f5,-,-⟩:=IJ c sl;obtain⟨R,w0,F,g,p,q,r,i⟩:=MU w m;simp only[m] at f;have j:=Dl i;rw[m]
 have I:=Dl g;have s:=Dl F;clear m g i F;generalize H4 c.kind c.mx c.my=z at *;generalize (c.mx==0&&c.my==0)=N at *;generalize (c.mx==AM c.mx&&c.my==AM c.my)=O at *;generalize AM c.mx=u at *;generalize AM c.my=v at *
 go_enter func118,ntmps118
 go_wp2_with (with_reducible refine N5 rfl 77 _ rfl w.heap.size rfl 77 A (0,0) _ (heap_alloc_new w _) N3 rfl r ?_)
 rw[I.out,s.out];refine(f _).mono ?_;rintro e a ⟨rfl,b⟩;rw[p] at b;obtain⟨J,c1,c2,c3,t,B⟩:=FL (j.out a b).2;have K:=b.size;have k:=q.trans (b.mono (by omega));cases hik:AE c.kind with
 |true=>
  rw[hik] at l
  go_wp2_with fail
  refine(n _).mono ?_;rintro e P ⟨rfl,C⟩;have D:=k.trans (C.mono (by omega))
  go_wp2
  go_ret
  exact⟨AB (by rw[l.out];rfl),by rw[s.out];exact D⟩
 |false=>
  rw[hik] at l;have G:=Dl (fun x (d:Below a.heap.size a x)=>FL (c:=c) (sl:=sl) (j.out x (b.trans (d.mono (by omega)))).2);have L:=Dl (fun x (d:Below a.heap.size a x)=>((o x).mono fun e y h=>⟨h.1,d.trans (h.2.mono d.size)⟩:A9 prog 152 #[.agg #[.int .i64 c.mx,.int .i64 c.my]] x fun e y=>e=.returned (.agg #[.int .i64 u,.int .i64 v])/\Below a.heap.size a y))
  have E:=(Dm a.heap.size a).drew;clear J c1 c2 c3 t B
  go_wp2
  refine BU (S:=fun x=>Below a.heap.size a x) 6 (by kernel_rfl) (by kernel_rfl) E ?_;simp only[Dp,Bk,Gs,Gt];refine AJ ?_;simp only[A1];refine AT (v:=.agg #[.int .i64 c.mx,.int .i64 c.my]) (by kernel_rfl) (fun x d=>by obtain⟨-,-,-,-,t,B⟩:=G.out x d;go_simp) ?_;simp only[A1];refine AJ ?_;simp only[A1]
  refine AT (v:=.agg #[.int .i64 c.mx,.int .i64 c.my]) (by kernel_rfl) (fun x d=>by obtain⟨-,-,-,-,t,B⟩:=G.out x d;go_simp) ?_;simp only[A1];refine AY (by kernel_rfl) L.out (fun _=>by kernel_rfl) ?_;simp only[A1];refine AJ ?_;simp only[A1];refine BS fun x d=>?_
  go_wp2
  go_ret
  exact⟨AB (by rw[l.out];rfl),by rw[s.out];exact k.trans (d.mono (by omega))⟩
set_option maxRecDepth 100000 in
theorem VM (c:Cel)(p:Nat->Option Addr)(n k:Nat->Nat)(B b:Nat)(r:List UInt8)(w:A5)(f:AN w B b r)(hr:r.length<=137438953472)(hB:B<=w.heap.size)(q:∀x,w.grownBy x (some b)->BD x/\FP x c p n):
  A9 prog 153 #[.pointer (some ⟨b,0,none⟩),.agg (AF c fun i=>.slice (p i) (n i) (k i)).toArray] w fun e w'=>∃i,i<=6/\AN w' B b (r++CU c i)/\w.grownBy w' (some b)/\((i=6/\EE c=true/\e=.returned (.int .i64 0))\/(EE c=false/\e=.returned (.int .i64 7))):=by
 have v:=fun x=>RP c (fun i=>.slice (p i) (n i) (k i)) x;obtain⟨A,I,f0,f1,f2,f3,f4,f5,⟨f6,f7,f8,f9,f10,f11⟩,f12,f13,f14,f15,f16,f17⟩:=IJ c fun i=>.slice (p i) (n i) (k i);obtain⟨R,w0,hR,J,ao,K,aa,d⟩:=MU w I;simp only[I] at v;have ap:=Dl d;rw[I];have aq:=Dl J;have ar:=Dl hR;have au:=Dl I;have ab:b≠R:=by have h1:=f.lt;omega
 have L:some R≠some b:=fun h=>by injection h with h;exact ab h.symm
 have ac:=Dl (fun i hi x=>Wg (fun i=>.slice (p i) (n i) (k i)) x i hi);have ad:=Dl q;have M:=Dl v;have s:=Dl (show EE c=true↔_ from O2);obtain⟨G,C⟩:=Ai (AE c.kind);have D:=Dl C;rw[C] at M;have N:w.grownBy w0 (some b):=BR (hR▸K) _
 have O:AN w0 B b (r++CU c 0):=by rw[show r++CU c 0=r from Ew _];exact f.below (hR▸K)
 have t:=(d w0 (Dm _ _)).1;clear I J d hR f q v C
 go_enter func153,ntmps153
 go_wp2
 rw[aq.out,ar.out]
 go_loopw [10] (fun z wr=>∃i:Nat,i<=6/\z=.int .i64 i/\AN wr B b (r++CU c i)/\w.grownBy wr (some b)/\wr.heap[R]? =some (.cells A 77 (0,0))/\Hid (∀j,j<i->CI G (c.dc j) (c.ev j)=true)) (fun z _=>6-(RowKit.intOf z).toNat)
 case atStart=>exact⟨0,by omega,rfl,O,N,t,Dl fun j h=>absurd h (Fc j)⟩
 case round=>
  clear O N t;obtain⟨i,P,rfl,f,Q,d,E⟩:=hrel;by_cases l:i<6
  ·have t0:decide ((i:Int)<6)=true:=by simp;omega
   have i0:=ac.out i l;obtain⟨H,hc⟩:=ad.out _ Q;obtain⟨e1,e2,e3⟩:=hc i l;have ae:B<=wr.heap.size:=Ea hB Q.size;have T:R<wr.heap.size:=by have:=(An.1 d).1;exact this
   have U:(r++CU c i).length<=274877906944:=by
    have h1:=SK (c:=c) (n:=64) i fun j hj=>Qs (PW (E.out j hj)).2;have h2:(8+22*64)*i<=(8+22*64)*6:=Nat.mul_le_mul_left _ P;rw[B9];omega
   have af:=Dl (fun x (a:Below wr.heap.size wr x)=>(a.block R T).trans d);have V:(AF c fun i=>.slice (p i) (n i) (k i)).toArray=A:=au.out;have av:=Dl (fun x (a:Below wr.heap.size wr x)=>A2 (o:=6+i) (show x.heap[R]? =some (.cells (AF c fun i=>.slice (p i) (n i) (k i)).toArray 77 (0,0)) by rw[V];exact af.out x a) (IY c _ i l))
   have aw:=Dl (fun x (a:Below wr.heap.size wr x)=>(M.out x).mono fun e y h=>(⟨h.1,a.trans (h.2.mono a.size)⟩:e=.returned (.bool G)/\Below wr.heap.size wr y));have ag:=(Dm wr.heap.size wr).drew;have u:∀x,Below wr.heap.size wr x->AN x B b (r++CU c i)/\B<=x.heap.size/\CE x (p i) (c.ev i)/\BD x:=fun x a=>⟨f.below a,Ea ae a.size,e3.below a,H.below a⟩
   have W:=Dl u;have an:=Dl Q;have ah:=Dl U;have ai:=Dl e1;have aj:=Dl e2;clear H hc e1 e2 e3 u f Q U V
   go_wp2
   refine BU (S:=fun x=>Below wr.heap.size wr x) 8 (by kernel_rfl) (by kernel_rfl) ag ?_;simp only[Dp,Bk,Gs,Gt];refine AJ ?_;simp only[A1];refine FJ 77 _ R 77 A (0,0) _ (by kernel_rfl) rfl rfl (fun x a=>af.out x a) N3 rfl aa ?_;simp only[A1];refine AY (by kernel_rfl) aw.out (fun _=>by kernel_rfl) ?_;simp only[A1]
   iterate 2 (refine AJ ?_;simp only[A1])
   refine AT (by kernel_rfl) (fun x _=>by go_simp;rw[Bc (by omega)]) ?_;simp only[A1];refine AR 3 _ ⟨R,6+i,none⟩ (.int .i64 (c.dc i)) (by kernel_rfl) rfl rfl (fun x a=>by have c0:=av.out x a;go_simp) ?_;simp only[A1];refine AJ ?_;simp only[A1];refine BS fun x a=>?_;obtain⟨f,ak,hp,H⟩:=W.out x a;by_cases hm:CI G (c.dc i) (c.ev i)=true
   ·have g:=rS G (c.dc i) (p i) (c.ev i) (k i) B b (r++CU c i) x f ah.out ak hp H hm;rw[<-ai.out] at g;have al:=Dl hm;clear hm f hp H
    go_wp2_with fail
    refine g.mono ?_;rintro e w2 ⟨rfl,m,X⟩;have ax:=Dl (show CU c (i+1)=CU c i++C4 G (c.dc i) (c.ev i) by rw[<-D.out];rfl);rw[Bf,<-ax.out] at m;have Y:=(X.block R (Bg T a.size) L).trans (af.out x a);have F:=AO an.out (AO (BR a (some b)) X)
    go_wp2
    go_roundw
    case rel=>exact⟨i+1,by omega,by go_num,m,F,Y,Dl fun j hj=>(Gu.1 hj).elim (E.out j) fun h=>h▸al.out⟩
    case measure=>simp[RowKit.intOf];omega
   ·have g:=mM G (c.dc i) (p i) (c.ev i) (k i) b x hp (by rw[<-ai.out];have:=aj.out;omega) (by simpa using hm);rw[<-ai.out] at g;have al:=Dl hm;have am:=Dl f;clear hm f hp H
    go_wp2_with fail
    refine g.mono ?_;rintro e w2 ⟨rfl,Z⟩;have m:=am.out.below Z;have F:=AO an.out (AO (BR a (some b)) (BR Z _))
    go_wp2
    go_ret
    refine⟨i,P,m,F,.inr ⟨?_,rfl⟩⟩;refine Bool.eq_false_iff.2 fun h=>al.out ?_;rw[<-D.out];exact s.out.1 h i l
  ·obtain rfl:i=6:=by omega
   go_wp2
   go_ret
   refine⟨6,by omega,f,Q,.inl ⟨rfl,?_,rfl⟩⟩;rw[s.out,D.out];exact E.out
end
section
open Go.RowKit Go.Lib Go.Shelf
theorem dN:Builder.Extra prog Tryz.lRepeat_ren where
 sizeBuilder:=by kernel_rfl
 liesBuilder:=by kernel_rfl
 t5:=Du
 a5:=isAgg5
 z5:=sizeOf5
 v5:=zeroValue5
 infoByte:=by kernel_rfl
 cellsByte:=by kernel_rfl
 sizeByte:=by kernel_rfl
 neB5:=by decide
theorem Va (inter:Bool):∀n,Lib.repeatL (KB inter) n=HK inter n
 |0=>rfl
 |n+1=>by rw[MD,<-Va inter n];rfl
theorem oC (inter:Bool)(n:Nat)(s:ByteArray)(w:A5)(hs:s.data.toList=KB inter)(hn:n<=64):
  A9 prog 185 #[.string s,.int .i64 (n:Nat)] w fun e a=>e=.returned (.string ⟨(HK inter n).toArray⟩)/\Below w.heap.size w a:=by
 have b:s.size<=10:=by
  have h:=(Xc inter).2;rw[<-hs] at h;exact h
 have h:=Any.strings_Repeat Tryz.lRepeat dN s n w (by omega) (Ea (Hm b hn) (by decide));rw[hs,Va] at h;exact h
end
end Go.Proofs.YtjjmalchelniiaaGreatDoor
