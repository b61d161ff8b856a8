/- No condition. -/
import Derived.Test.YtjjmalchelniiaaGreatDoorZpa
import Derived.Test.YtjjmalchelniiaaGreatDoorZpk
import Derived.Test.YtjjmalchelniiaaGreatDoorZps
import Derived.Test.YtjjmalchelniiaaGreatDoorZpu
import Derived.Test.YtjjmalchelniiaaGreatDoorZpw
import Derived.Test.YtjjmalchelniiaaGreatDoorZpba
import Derived.Test.YtjjmalchelniiaaGreatDoorZpbk
import Derived.Test.YtjjmalchelniiaaGreatDoorZpbn
open Go.Proofs.Tryz
open Go renaming World->A5,Calls->A9
set_option maxHeartbeats 2000000
namespace Go.Proofs.YtjjmalchelniiaaGreatDoor
section
open Go.RowKit Go.Lib Go.Shelf
theorem Wfe{p:Prop}(h:p:=by
 go_enter func204,Og
 go_wp2
 go_ret2
 exact⟨rfl,rfl⟩):p:=h
theorem Wfd{p:Prop}(h:p:=by
 go_enter func204,Og
 go_wp2_with fail
 refine(a _).mono ?_;rintro e j ⟨rfl,f⟩
 go_wp2
 go_ret2
 exact⟨rfl,f⟩):p:=h
theorem Wfc{p:Prop}(h:p:=by
 go_enter func117,ntmps117
 go_wp2_with fail
 refine H.mono ?_;rintro e k ⟨rfl,d⟩
 go_wp2
 go_ret
 exact⟨AJ zK,a.trans (d.mono a.size)⟩):p:=h
abbrev Og:=@ntmps204
theorem oU:Builder.Extra prog Tryz.lJoin_ren where
 sizeBuilder:=tN
 liesBuilder:=tN
 t5:=Dx
 a5:=isAgg5
 z5:=sizeOf5
 v5:=M7
 infoByte:=tN
 cellsByte:=tN
 sizeByte:=tN
 neB5:=sY
def Rl (l:List ByteArray):List UInt8:=(l.map (·.data.toList)).flatten
theorem rW:∀l:List (List UInt8),Lib.join l []=l.flatten
 |[]=>rfl
 |[x]=>by rw[Lib.join_one];simp
 |x::y::r=>by
  rw[Lib.join_cons];simp[Lib.joinTail]
theorem gD {w:A5}{base e:Nat}{v:Value}{l:List ByteArray}(h:w.ownsRow base e 1 v l.length (DA l))(c:0<l.length):
  ∃(b cap:Nat),v=.slice (some ⟨b,0,none⟩) l.length cap/\l.length<=cap/\b<w.heap.size/\∀(j:Nat) x,l[j]? =some x->w.cell? ⟨b,j,none⟩=some (.string x):=by
 have c:=h;rcases h.2 with ⟨rfl,h1⟩|⟨g,cap,d,rfl,_,hg,a⟩
 ·omega
 ·refine⟨g,cap,rfl,by first|exact a.1|exact a.2.1|omega,(Am.1 hg).1,fun i x hi=>?_⟩;have:=Di (g:=g) c rfl i (.string x) (by simp[DA,hi]);rwa [Gh,Ar] at this
theorem nA (b c:Nat)(l:List ByteArray)(w:A5)(a:∀(j:Nat) x,l[j]? =some x->w.cell? ⟨b,j,none⟩=some (.string x))(d:b<w.heap.size)(hc:l.length<=c)(hn:l.length<=1048576)(hl:(Rl l).length<=1048576):
  A9 prog 208 #[.slice (some ⟨b,0,none⟩) l.length c,.string ⟨#[]⟩] w fun e f=>e=.returned (.string ⟨(Rl l).toArray⟩)/\Below w.heap.size w f:=by
 have h:=Any.strings_Join Tryz.lJoin oU b 0 c l ⟨#[]⟩ w (fun j x hj=>by rw[Ar];exact a j x hj) d sX hc;rw[show (⟨#[]⟩:ByteArray).data.toList=[] from rfl,rW] at h;exact h (by have:(Rl l).length=(l.map (·.data.toList)).flatten.length:=rfl;omega)
end
section
open Go.RowKit Go.Lib
theorem Ym (i:Bool)(d:Int)(w:A5)(h:KB i d=true):A9 prog 204 #[.bool i,.int .i64 d] w fun e g=>e=.returned (.tuple #[.string ⟨(dcB i d).toArray⟩,.int .i64 0])/\Below w.heap.size w g:=by
 cases i with
 |false=>
  have c:d=0:=by simpa [KB] using h
  subst c
  go_enter func204,Og
  go_wp2
  go_ret2
  exact⟨rfl,Dn _ _⟩
 |true=>
  have c:1<=d/\d<=254:=by simpa [KB] using h
  obtain⟨h1,h2⟩:=c;have t0:decide (d<1)=false:=sU;have t1:decide (254<d)=false:=sU;by_cases b:d=128
  ·subst b;have a:=fun x=>Qr 255 8 x sY uB;have F:=Dm (show (⟨(dcB true 128).toArray⟩:ByteArray)=⟨(AF (255:Int).toNat (8:Int).toNat).toArray⟩ from rfl);rw[F.out];generalize (⟨(AF (255:Int).toNat (8:Int).toNat).toArray⟩:ByteArray)=y at a ⊢
   exact Wfd
  ·have k:(d==128)=false:=by rw[Fe];exact b
   have a:=fun x=>Qr d 8 x sX (by
    unfold EW;rw[Fg];refine⟨sX,sX,sX,?_⟩;rw[show (2:Int)^(8:Int).toNat=256 from rfl];omega)
   have F:=Dm (show (⟨(dcB true d).toArray⟩:ByteArray)=⟨(AF d.toNat (8:Int).toNat).toArray⟩ by unfold dcB;rw[Bb rfl,Ba b];rfl);rw[F.out];generalize (⟨(AF d.toNat (8:Int).toNat).toArray⟩:ByteArray)=y at a ⊢;clear b h h1 h2 F
   exact Wfd
theorem gY (i:Bool)(d:Int)(w:A5)(h:KB i d=false):A9 prog 204 #[.bool i,.int .i64 d] w fun e a=>e=.returned (.tuple #[.string ⟨#[]⟩,.int .i64 7])/\w=a:=by
 cases i with
 |false=>
  have b:(d==0)=false:=h;clear h
  exact Wfe
 |true=>
  by_cases h1:d<1
  ·have t0:decide (d<1)=true:=uD;clear h
   exact Wfe
  ·have t0:decide (d<1)=false:=uD;have t1:decide (254<d)=true:=by
    have h2:(decide (1<=d)&&decide (d<=254))=false:=h;rw[Gm (by omega:1<=d),Gs,Gd] at h2;simp;omega
   clear h h1
   exact Wfe
def GZ (i:Bool)(d:Int)(l:List Ev):List ByteArray:=⟨(dcB i d).toArray⟩::l.map DW
theorem Qhf (i:Bool)(d:Int)(l:List Ev):Rl (GZ i d l)=CN i d l:=by
 unfold Rl GZ CN BU;rw[Cn,List.flatten_cons,Ks,List.flatMap]
 rfl
theorem Qhg (i:Bool)(d:Int)(l:List Ev):(GZ i d l).length=l.length+1:=by simp[GZ]
theorem Qb7 (i:Bool)(d:Int)(l:List Ev)(x:Ev):GZ i d (l++[x])=GZ i d l++[DW x]:=by simp[GZ]
theorem Qha (x:Ev)(h:DL x.2.1 x.2.2=true):(!(FL x.1 x.2.1 x.2.2).data.toList.isEmpty)=true:=by
 obtain⟨b,r1,_⟩:=KQ.1 h;have h3:=Th x.1 x.2.1.toNat x.2.2 sX;unfold FL;rw[Bb h];show (!(AF _ _).isEmpty)=true;cases hl:AF (DO x.1 x.2.1.toNat x.2.2) (DI x.1 x.2.1.toNat x.2.2) with
 |nil=>
  have e:=BS (DO x.1 x.2.1.toNat x.2.2) (DI x.1 x.2.1.toNat x.2.2);rw[hl,Bu] at e;omega
 |cons a l=>rfl
set_option maxRecDepth 100000 in
theorem rL (i:Bool)(d:Int)(p:Option Addr)(l:List Ev)(c:Nat)(w:A5)(hp:CX w p l)(hT:BH w)(hm:FU i d l=true):
  A9 prog 189 #[.bool i,.int .i64 d,.slice p l.length c] w fun e w'=>e=.returned (.tuple #[.string ⟨(CN i d l).toArray⟩,.int .i64 0])/\Below w.heap.size w w':=by
 obtain⟨hd,K⟩:=Tq hm;have ah:=SS K;obtain⟨i0,hi,aw,ax,ay⟩:=Ds Q1;obtain⟨B,hB⟩:=Ah w.heap.size;have R:=fun x=>Uw i x;have t:=fun(x:A5) (S:Below w.heap.size w x)=>Y2 p l c ((BI i:Nat):Int) x (hp.below S) sX;unfold Qo at t;rw[sP K] at t;have A:=Tj (lvG l ((BI i:Nat):Int)).1;have T:(prog.info? 180).map (·.size)=some (Ec (lvG l ((BI i:Nat):Int)).1).size:=Tp _;obtain⟨Y,hY⟩:=Ah (Ec (fun _=>0));have az:∀w,(zeroValue 180).run prog w=.ok (.agg Y) w:=by rw[<-hY];exact U8
 have U:Y.size=(Ec (lvG l ((BI i:Nat):Int)).1).size:=by rw[<-hY,NT,NT]
 generalize Ec (lvG l ((BI i:Nat):Int)).1=Z at t A T U;generalize ((BI i:Nat):Int)=fr at R t;have V:=fun x=>Ym i d x hd;obtain⟨y0,W⟩:∃y0:ByteArray,⟨(dcB i d).toArray⟩=y0:=⟨_,rfl⟩;rw[W] at V;have a0:=Dm t;have bi:=Dm (fun(x:A5) (S:Below B w x)=>(hp.below (by rw[hB];exact S):CX x p l));have bj:=Dm (fun(x:A5) (S:Below B w x)=>(hT.below (by rw[hB];exact S):BH x));have a1:=Dm (show∀j,(h:j<l.length)->(!(FL l[j].1 l[j].2.1 l[j].2.2).data.toList.isEmpty)=true from fun j h=>Qha _ (Y9y K h));have ai:=Dm (Qhf i d l);have a2:=Dm (Wu i d l);have a3:=Dm (show GZ i d []=[y0] by rw[<-W];rfl);have a4:=Dm (fun(j:Nat) (h:j<l.length)=>(by rw[Bd h,Qb7]:GZ i d (l.take (j+1))=GZ i d (l.take j)++[DW l[j]]));have a5:=Dm hB;obtain⟨n,hn⟩:=Ah l.length;have av:=Dm hn;have a6:=Dm (fun(j:Nat) (h:j<=n)=>(by rw[Qhg,Be];omega:(GZ i d (l.take j)).length=j+1));rw[hn] at ah ⊢;generalize aj:(⟨(CN i d l).toArray⟩:ByteArray)=RB;have a7:=Dm aj;clear hp hT t hY hd K hm W hB hn aj
 go_enter func189,ntmps189
 go_wp2_with fail
 refine(V _).mono ?_;rintro e w1 ⟨rfl,a⟩
 go_wp2_with fail
 refine(R _).mono ?_;rintro e L ⟨rfl,rfl⟩
 go_wp2_with fail
 have C:=a0.out _ a;rw[av.out] at C;refine C.mono ?_;rintro e L ⟨rfl,r⟩;rw[a5.out] at a;have D:B<=w1.heap.size:=by rw[<-a5.out];exact a.size
 have ak:=a.trans (r.mono D);have al:B<=L.heap.size:=Ef D r.size;obtain⟨X,hX⟩:=Ah L.heap.size;have M:=heap_alloc_new L (.cells Y 180 (0,0));have E:=ak.alloc al (.cells Y 180 (0,0));have Q:(L.alloc (.cells Y 180 (0,0))).heap.size=X+1:=sU;rw[hX] at M;generalize am:L.alloc (.cells Y 180 (0,0))=w4 at M E Q;have a8:=Dm am;have a9:=Dm hX;have u:=Dm (show B<=X by omega);clear am hX a r ak al D C V R
 go_wp2_with (rw[a8.out,a9.out];with_reducible refine AK rfl 180 _ _ rfl X Z Y rfl rfl 180 M T U A ?_;intro w5 ba aa;clear az)
 have an:=E.grown aa (by have:=u.out;omega) (fun k hk=>by injection hk with hk;have:=u.out;omega);have ab:B<=w5.heap.size:=by have:=u.out;have:=aa.size;omega
 have f:(w5.alloc (.cells #[.string y0] 9 (0,0))).ownsRow B 9 1 (.slice (some ⟨w5.heap.size,0,none⟩) 1 1) 1 (DA [y0]):=Kx w5 #[.string y0] 1 ab tK rfl;have ac:=an.alloc ab (.cells #[.string y0] 9 (0,0));have ad:B<=(w5.alloc (.cells #[.string y0] 9 (0,0))).heap.size:=sU;generalize w5.alloc (.cells #[.string y0] 9 (0,0))=w7 at f ac ad ⊢;generalize w5.heap.size=bk at f ⊢;clear M E Q ba aa an ab T A U
 go_loopw [12,40] (fun v z wr=>∃j:Nat,j<=n/\z=.int .i64 j/\wr.ownsRow B 9 1 v (j+1) (DA (GZ i d (l.take j)))/\Below B w wr/\B<=wr.heap.size) (fun _ z _=>n-(RowKit.intOf z).toNat)
 case atStart=>exact⟨0,Do _,rfl,by rw[Bk,a3.out];exact f,ac,ad⟩
 case round=>
  clear f ac ad;obtain⟨j,hj,rfl,m,hb,hz⟩:=hrel;by_cases ao:j<n
  ·have t0:decide ((j:Int)<(n:Int))=true:=sU;have t1:decide (j<n)=true:=by simpa using ao
   have O:j<l.length:=by rw[av.out];exact ao
   obtain⟨b,o,rfl,bb,hc⟩:=(bi.out _ hb).at sX;obtain⟨c0,c1,c2⟩:=hc j O;have P:=a1.out j O;have F:=a4.out j O;obtain⟨⟨x0,x1,x2⟩,ap⟩:=Ah (l[j]);rw[ap] at c0 c1 c2 P F;simp only at c0 c1 c2 P;rw[show DW (x0,x1,x2)=FL x0 x1 x2 from rfl] at F;have s:=fun x S=>Qfj x0 x1 x2 x S;rw[P] at s;generalize FL x0 x1 x2=y at s F;have N:=Dm (show DA (GZ i d (l.take (j+1)))=DA (GZ i d (l.take j))++[.string y] by rw[F,OP]);obtain⟨X,hX⟩:=Ah wr.heap.size;obtain⟨wx,G⟩:=Ah (wr.alloc (.cells #[.bool x0,.int .i64 x1,.int .i64 x2] 153 (0,0)));have bc:wx.heap.size=X+1:=by rw[<-G,<-hX];simp
   have ae:Below B w wx:=by rw[<-G];exact hb.alloc (by omega) _
   have aq:wx.ownsRow B 9 1 u12 (j+1) (DA (GZ i d (l.take j))):=by rw[<-G];exact m.alloc _
   have a9:=Dm hX;have bd:=Dm G;have u:=Dm (show B<=X by omega);clear hX G hc bb ap F P O m hb
   go_wp2_with fail
   rw[bd.out,a9.out];refine(s _ (bj.out _ ae)).mono ?_;rintro e w1 ⟨rfl,a⟩;have r:=ae.trans (a.mono (by have:=u.out;omega));have bf:B<=w1.heap.size:=by have:=a.size;have:=u.out;omega
   have ar:=aq.kept (BF a none) (Kt _);clear ae aq a s bc
   go_wp2_with (at_builtin;refine S5 (y0:=y) rfl rfl underlying163 hi aw rfl ax ay rfl (ar.alloc _) rfl ?d1 ?d2 ?d3 ?_;(case d1=>go_cell);(case d2=>omega);(case d3=>(simp;omega));intro v2 L bg H;have au:World.grownBy _ L (Value.ownBlock u12):=H;have E:=(r.alloc bf _).grown au sU (fun q hq=>(ar.lt q hq).1);have bh:B<=L.heap.size:=Ef sU au.size;clear H)
   go_roundw
   case rel=>exact⟨j+1,sX,tP,by rw[N.out];exact bg,E,bh⟩
   case measure=>simp[RowKit.intOf];omega
  ·obtain rfl:j=n:=sX;have t0:decide ((j:Int)<(j:Int))=false:=sV;have t1:decide (j<j)=false:=sV;have I:=a6.out j (B9 _);rw[<-I] at m;obtain⟨g,cap,rfl,J,hg,af⟩:=gD m sX;have ag:l.take j=l:=by rw[<-av.out];exact Jk
   rw[ag] at af J I;have hj:=nA g cap (GZ i d l) wr af hg J sX (by rw[ai.out];have:=a2.out;rw[av.out] at this;omega);rw[ai.out,a7.out] at hj;rw[ag];rw[I] at hj ⊢;clear m af J ag
   go_wp2_with fail
   refine hj.mono ?_;rintro e w1 ⟨rfl,a⟩;have r:=hb.trans (a.mono hz)
   go_wp2
   go_ret2
   exact⟨rfl,by rw[a5.out];exact r⟩
set_option maxRecDepth 100000 in
theorem Qkc (i:Bool)(d:Int)(p:Option Addr)(l:List Ev)(c:Nat)(w:A5)(G:CX w p l)(s:l.length<=140737488355328)(hm:FU i d l=false):
  A9 prog 189 #[.bool i,.int .i64 d,.slice p l.length c] w fun e R=>e=.returned (.tuple #[.string ⟨#[]⟩,.int .i64 7])/\Below w.heap.size w R:=by
 cases hd:KB i d with
 |false=>
  have b:=fun x=>gY i d x hd;generalize l.length=n;clear G hm hd s
  go_enter func189,ntmps189
  go_wp2_with fail
  refine(b _).mono ?_;rintro e P ⟨rfl,rfl⟩
  go_wp2
  go_ret2
  exact⟨rfl,Dn _ _⟩
 |true=>
  have t:EV (BI i) l l.length=true:=by
   unfold FU at hm;rw[hd,Gs,Bool.not_eq_false'] at hm;exact hm
  obtain⟨B,Q⟩:=Ah w.heap.size;have m:=fun x=>Uw i x;have a:=fun(x:A5) (S:Below w.heap.size w x)=>Y2 p l c ((BI i:Nat):Int) x (G.below S) sX;unfold Qo at a;rw[Qo8 t] at a;have j:=Tj (lvG l ((BI i:Nat):Int)).1;have u:(prog.info? 180).map (·.size)=some (Ec (lvG l ((BI i:Nat):Int)).1).size:=Tp _;obtain⟨Y,H⟩:=Ah (Ec (fun _=>0));have I:∀w,(zeroValue 180).run prog w=.ok (.agg Y) w:=by rw[<-H];exact U8
  have v:Y.size=(Ec (lvG l ((BI i:Nat):Int)).1).size:=by rw[<-H,NT,NT]
  generalize Ec (lvG l ((BI i:Nat):Int)).1=Z at a j u v;generalize ((BI i:Nat):Int)=W at m a;have b:=fun x=>Ym i d x hd;obtain⟨y0,y⟩:∃y0:ByteArray,⟨(dcB i d).toArray⟩=y0:=⟨_,rfl⟩;rw[y] at b;have J:=Dm a;have K:=Dm Q;obtain⟨n,hn⟩:=Ah l.length;have T:=Dm hn;rw[hn];clear G a H hd t hm y Q hn s
  go_enter func189,ntmps189
  go_wp2_with fail
  refine(b _).mono ?_;rintro e P ⟨rfl,f⟩
  go_wp2_with fail
  refine(m _).mono ?_;rintro e r ⟨rfl,rfl⟩
  go_wp2_with fail
  have g:=J.out _ f;rw[T.out] at g;refine g.mono ?_;rintro e r ⟨rfl,o⟩;rw[K.out] at f;have h:B<=P.heap.size:=by rw[<-K.out];exact f.size
  have z:=f.trans (o.mono h);have A:B<=r.heap.size:=Ef h o.size;obtain⟨X,L⟩:=Ah r.heap.size;have q:=heap_alloc_new r (.cells Y 180 (0,0));have C:=z.alloc A (.cells Y 180 (0,0));have D:(r.alloc (.cells Y 180 (0,0))).heap.size=X+1:=sU;rw[L] at q;generalize E:r.alloc (.cells Y 180 (0,0))=w4 at q C D;have M:=Dm E;have U:=Dm L;have F:=Dm (show B<=X by omega);clear E L f o z A h g b m
  go_wp2_with (rw[M.out,U.out];with_reducible refine AK rfl 180 _ _ rfl X Z Y rfl rfl 180 q u v j ?_;intro w5 V N;clear I)
  have O:=C.grown N (by have:=F.out;omega) (fun k hk=>by injection hk with hk;have:=F.out;omega)
  go_ret2
  exact⟨rfl,by rw[K.out];exact O⟩
theorem mG (i:Bool)(d:Int)(p:Option Addr)(l:List Ev)(c b:Nat)(w:A5)(g:CX w p l)(a:l.length<=140737488355328)(hm:FU i d l=false):
  A9 prog 172 #[.pointer (some ⟨b,0,none⟩),.bool i,.int .i64 d,.slice p l.length c] w fun e j=>e=.returned (.int .i64 7)/\Below w.heap.size w j:=by
 have h:=Qkc i d p l c w g a hm;generalize l.length=n at h ⊢
 go_enter func172,ntmps172
 go_wp2_with fail
 refine h.mono ?_;rintro e k ⟨rfl,f⟩
 go_wp2
 go_ret
 exact⟨rfl,f⟩
theorem Qod (i:Bool)(d:Int)(p:Option Addr)(l:List Ev)(c B b:Nat)(r:List UInt8)(w:A5)(z:AN w B b r)(hn:r.length<=274877906944)(A:B<=w.heap.size)(C:CX w p l)(D:BH w)(hm:FU i d l=true):
  A9 prog 172 #[.pointer (some ⟨b,0,none⟩),.bool i,.int .i64 d,.slice p l.length c] w fun e E=>e=.returned (.int .i64 0)/\AN E B b (r++CN i d l)/\w.grownBy E (some b):=by
 have h:=rL i d p l c w C D hm;have g:=SS (Tq hm).2;have o:=Wu i d l;have j:=Yh i d l;have q:=Dm j;have a:=fun(x:A5) (m:AN x B b r) (G:B<=x.heap.size)=>Wl x B b r ⟨(CN i d l).toArray⟩ m (by simpa using q.out) (by show r.length+(CN i d l).toArray.size<=_;simp;omega) G;have f:(⟨(CN i d l).toArray⟩:ByteArray).data.toList=CN i d l:=sV;rw[f] at a;have F:=Dm a;have s:=Dm (fun(x:A5) (m:Below w.heap.size w x)=>(⟨z.below m,Ef A m.size⟩:AN x B b r/\B<=x.heap.size));generalize (⟨(CN i d l).toArray⟩:ByteArray)=H at h a F;generalize l.length=n at h ⊢;clear a z hn A C D hm g o j f
 go_enter func172,ntmps172
 go_wp2_with fail
 refine h.mono ?_;rintro e I ⟨rfl,k⟩;obtain⟨t,u⟩:=s.out _ k
 go_wp2_with fail
 refine(F.out _ t u).mono ?_;rintro e J ⟨rfl,v,y⟩
 go_wp2
 go_ret
 exact⟨rfl,v,AP (BF k _) y⟩
set_option maxRecDepth 100000 in
theorem Yu5 (c:Cel)(sl:Nat->Value)(w:A5)(hs:H3 w):A9 prog 117 #[.agg (AD c sl).toArray] w fun e i=>e=.returned (.bool (KS c.kind c.step))/\Below w.heap.size w i:=by
 have b:=fun x (j:Below w.heap.size w x)=>YA c.step x (hs.below j);obtain⟨A,g,f0,f1,f2,f3,f4,f5,-,-⟩:=KP c sl;rw[g];have a:=(Dn _ w).alloc (B9 _) (.cells A 77 (0,0));have H:=b _ a;have f:Hid (KS c.kind c.step=if (c.kind==1 || c.kind==4) then !(E7 c.step).data.toList.isEmpty else c.step==0):=Dm rfl;clear g b hs;generalize KS c.kind c.step=z at *;generalize (!(E7 c.step).data.toList.isEmpty)=l at *;generalize c.kind=h at *;generalize c.step=m at *;cases t0:(h==1) with
 |true=>
  rw[t0] at f
  exact Wfc
 |false=>
  cases t1:(h==4) with
  |true=>
   rw[t0,t1] at f
   exact Wfc
  |false=>
   rw[t0,t1] at f
   go_enter func117,ntmps117
   go_wp2
   go_ret
   exact⟨AJ zK,a⟩
set_option maxRecDepth 100000 in
theorem Yqk (c:Cel)(sl:Nat->Value)(w:A5):A9 prog 118 #[.agg (AD c sl).toArray] w fun e G=>e=.returned (.bool (JI c.kind c.mx c.my))/\Below w.heap.size w G:=by
 have f:=fun x=>VN c sl x;have n:=fun x=>YB c.mx c.my x;have o:=fun x=>VG c.mx c.my x;have K:=V1 c.mx c.my (AI c.mx) (AI c.my);have l:Hid (JI c.kind c.mx c.my=if AG c.kind then c.mx==0&&c.my==0 else c.mx==AI c.mx&&c.my==AI c.my):=Dm rfl;obtain⟨A,m,f0,f1,f2,f3,f4,f5,-,-⟩:=KP c sl;obtain⟨R,w0,E,g,p,q,r,i⟩:=R0 w m;simp only[m] at f;have j:=Dm i;rw[m];have H:=Dm g;have s:=Dm E;clear m g i E;generalize JI c.kind c.mx c.my=z at *;generalize (c.mx==0&&c.my==0)=L at *;generalize (c.mx==AI c.mx&&c.my==AI c.my)=M at *;generalize AI c.mx=u at *;generalize AI c.my=v at *
 go_enter func118,ntmps118
 go_wp2_with (with_reducible refine Nk rfl 77 _ rfl w.heap.size rfl 77 A (0,0) _ (heap_alloc_new w _) Oe rfl r ?_)
 rw[H.out,s.out];refine(f _).mono ?_;rintro e a ⟨rfl,b⟩;rw[p] at b;obtain⟨c0,c1,c2,c3,t,c5⟩:=UC (j.out a b).2;have I:=b.size;have k:=q.trans (b.mono sX);cases hik:AG c.kind with
 |true=>
  rw[hik] at l
  go_wp2_with fail
  refine(n _).mono ?_;rintro e N ⟨rfl,B⟩;have C:=k.trans (B.mono sX)
  go_wp2
  go_ret
  exact⟨AJ (by rw[l.out];rfl),by rw[s.out];exact C⟩
 |false=>
  rw[hik] at l;have F:=Dm (fun x (d:Below a.heap.size a x)=>UC (c:=c) (sl:=sl) (j.out x (b.trans (d.mono sX))).2);have J:=Dm (fun x (d:Below a.heap.size a x)=>((o x).mono fun e y h=>⟨h.1,d.trans (h.2.mono d.size)⟩:A9 prog 152 #[.agg #[.int .i64 c.mx,.int .i64 c.my]] x fun e y=>e=.returned (.agg #[.int .i64 u,.int .i64 v])/\Below a.heap.size a y));have D:=(Dn a.heap.size a).drew;clear c0 c1 c2 c3 t c5
  go_wp2
  refine E1 (S:=fun x=>Below a.heap.size a x) 6 tN tN D ?_;simp only[Dq,Bk,Gp,Gq];refine AQ ?_;simp only[A1];refine B1 (v:=.agg #[.int .i64 c.mx,.int .i64 c.my]) tN (fun x d=>by obtain⟨-,-,-,-,t,c5⟩:=F.out x d;go_simp) ?_;simp only[A1];refine AQ ?_;simp only[A1];refine B1 (v:=.agg #[.int .i64 c.mx,.int .i64 c.my]) tN (fun x d=>by obtain⟨-,-,-,-,t,c5⟩:=F.out x d;go_simp) ?_;simp only[A1];refine C2 tN J.out (fun _=>tN) ?_;simp only[A1];refine AQ ?_;simp only[A1];refine DX fun x d=>?_
  go_wp2
  go_ret
  exact⟨AJ (by rw[l.out];rfl),by rw[s.out];exact k.trans (d.mono (by omega))⟩
set_option maxRecDepth 100000 in
theorem aM (c:Cel)(p:Nat->Option Addr)(n k:Nat->Nat)(B b:Nat)(r:List UInt8)(w:A5)(f:AN w B b r)(hr:r.length<=137438953472)(hB:B<=w.heap.size)(q:∀x,w.grownBy x (some b)->BH x/\IF x c p n):
  A9 prog 153 #[.pointer (some ⟨b,0,none⟩),.agg (AD c fun i=>.slice (p i) (n i) (k i)).toArray] w fun e w'=>∃i,i<=6/\AN w' B b (r++D6 c i)/\w.grownBy w' (some b)/\((i=6/\HN c=true/\e=.returned (.int .i64 0))\/(HN c=false/\e=.returned (.int .i64 7))):=by
 have v:=fun x=>VN c (fun i=>.slice (p i) (n i) (k i)) x;obtain⟨A,I,f0,f1,f2,f3,f4,f5,⟨f6,f7,f8,f9,f10,f11⟩,f12,f13,f14,f15,f16,f17⟩:=KP c fun i=>.slice (p i) (n i) (k i);obtain⟨R,w0,Z,J,ao,K,aa,d⟩:=R0 w I;simp only[I] at v;have ap:=Dm d;rw[I];have aq:=Dm J;have ar:=Dm Z;have au:=Dm I;have ab:b≠R:=by have h1:=f.lt;omega
 have L:some R≠some b:=fun h=>by injection h with h;exact ab h.symm
 have ac:=Dm (fun i hi x=>dK (fun i=>.slice (p i) (n i) (k i)) x i hi);have ad:=Dm q;have M:=Dm v;have s:=Dm (show HN c=true↔_ from QJ);obtain⟨G,C⟩:=Ah (AG c.kind);have D:=Dm C;rw[C] at M;have N:w.grownBy w0 (some b):=BF (Z▸K) _;have O:AN w0 B b (r++D6 c 0):=by rw[show r++D6 c 0=r from Fa _];exact f.below (Z▸K)
 have t:=(d w0 (Dn _ _)).1;clear I J d Z f q v C
 go_enter func153,ntmps153
 go_wp2
 rw[aq.out,ar.out]
 go_loopw [10] (fun z wr=>∃i:Nat,i<=6/\z=.int .i64 i/\AN wr B b (r++D6 c i)/\w.grownBy wr (some b)/\wr.heap[R]? =some (.cells A 77 (0,0))/\Hid (∀j,j<i->FU G (c.dc j) (c.ev j)=true)) (fun z _=>6-(RowKit.intOf z).toNat)
 case atStart=>exact⟨0,sX,rfl,O,N,t,Dm fun j h=>absurd h (Fi j)⟩
 case round=>
  clear O N t;obtain⟨i,P,rfl,f,hg,d,E⟩:=hrel;by_cases l:i<6
  ·have t0:decide ((i:Int)<6)=true:=sU;have i0:=ac.out i l;obtain⟨H,hc⟩:=ad.out _ hg;obtain⟨e1,e2,e3⟩:=hc i l;have ae:B<=wr.heap.size:=Ef hB hg.size;have Q:R<wr.heap.size:=by have:=(Am.1 d).1;exact this
   have T:(r++D6 c i).length<=274877906944:=by
    have h1:=Uz (c:=c) (n:=64) i fun j hj=>SS (Tq (E.out j hj)).2;have h2:(8+22*64)*i<=(8+22*64)*6:=Nat.mul_le_mul_left _ P;rw[B8];omega
   have af:=Dm (fun x (a:Below wr.heap.size wr x)=>(a.block R Q).trans d);have U:(AD c fun i=>.slice (p i) (n i) (k i)).toArray=A:=au.out;have av:=Dm (fun x (a:Below wr.heap.size wr x)=>AA (o:=6+i) (show x.heap[R]? =some (.cells (AD c fun i=>.slice (p i) (n i) (k i)).toArray 77 (0,0)) by rw[U];exact af.out x a) (PM c _ i l));have aw:=Dm (fun x (a:Below wr.heap.size wr x)=>(M.out x).mono fun e y h=>(⟨h.1,a.trans (h.2.mono a.size)⟩:e=.returned (.bool G)/\Below wr.heap.size wr y));have ag:=(Dn wr.heap.size wr).drew;have u:∀x,Below wr.heap.size wr x->AN x B b (r++D6 c i)/\B<=x.heap.size/\CX x (p i) (c.ev i)/\BH x:=fun x a=>⟨f.below a,Ef ae a.size,e3.below a,H.below a⟩;have V:=Dm u;have an:=Dm hg;have ah:=Dm T;have ai:=Dm e1;have aj:=Dm e2;clear H hc e1 e2 e3 u f hg T U
   go_wp2
   refine E1 (S:=fun x=>Below wr.heap.size wr x) 8 tN tN ag ?_;simp only[Dq,Bk,Gp,Gq];refine AQ ?_;simp only[A1];refine NG 77 _ R 77 A (0,0) _ tN rfl rfl (fun x a=>af.out x a) Oe rfl aa ?_;simp only[A1];refine C2 tN aw.out (fun _=>tN) ?_;simp only[A1]
   iterate 2 (refine AQ ?_;simp only[A1])
   refine B1 tN (fun x _=>uU) ?_;simp only[A1];refine B4 3 _ ⟨R,6+i,none⟩ (.int .i64 (c.dc i)) tN rfl rfl (fun x a=>by have c0:=av.out x a;go_simp) ?_;simp only[A1];refine AQ ?_;simp only[A1];refine DX fun x a=>?_;obtain⟨f,ak,hp,H⟩:=V.out x a;by_cases hm:FU G (c.dc i) (c.ev i)=true
   ·have g:=Qod G (c.dc i) (p i) (c.ev i) (k i) B b (r++D6 c i) x f ah.out ak hp H hm;rw[<-ai.out] at g;have al:=Dm hm;clear hm f hp H
    go_wp2_with fail
    refine g.mono ?_;rintro e w2 ⟨rfl,m,W⟩;have ax:=Dm (show D6 c (i+1)=D6 c i++CN G (c.dc i) (c.ev i) by rw[<-D.out];rfl);rw[Bg,<-ax.out] at m;have X:=(W.block R (Bc Q a.size) L).trans (af.out x a);have F:=AP an.out (AP (BF a (some b)) W)
    go_wp2
    go_roundw
    case rel=>exact⟨i+1,sX,tP,m,F,X,Dm fun j hj=>(Nat.lt_succ_iff_lt_or_eq.1 hj).elim (E.out j) fun h=>h▸al.out⟩
    case measure=>simp[RowKit.intOf];omega
   ·have g:=mG G (c.dc i) (p i) (c.ev i) (k i) b x hp (by rw[<-ai.out];have:=aj.out;omega) (by simpa using hm);rw[<-ai.out] at g;have al:=Dm hm;have am:=Dm f;clear hm f hp H
    go_wp2_with fail
    refine g.mono ?_;rintro e w2 ⟨rfl,Y⟩;have m:=am.out.below Y;have F:=AP an.out (AP (BF a (some b)) (BF Y _))
    go_wp2
    go_ret
    refine⟨i,P,m,F,.inr ⟨?_,rfl⟩⟩;refine Bool.eq_false_iff.2 fun h=>al.out ?_;rw[<-D.out];exact s.out.1 h i l
  ·obtain rfl:i=6:=sX
   go_wp2
   go_ret
   refine⟨6,sX,f,hg,.inl ⟨rfl,?_,rfl⟩⟩;rw[s.out,D.out];exact E.out
end
section
open Go.RowKit Go.Lib Go.Shelf
theorem Qg7:Builder.Extra prog Tryz.lRepeat_ren where
 sizeBuilder:=tN
 liesBuilder:=tN
 t5:=Dx
 a5:=isAgg5
 z5:=sizeOf5
 v5:=M7
 infoByte:=tN
 cellsByte:=tN
 sizeByte:=tN
 neB5:=sY
theorem X3 (inter:Bool):∀n,Lib.repeatL (KT inter) n=IE inter n
 |0=>rfl
 |n+1=>by rw[NF,<-X3 inter n];rfl
theorem rA (inter:Bool)(n:Nat)(s:ByteArray)(w:A5)(hs:s.data.toList=KT inter)(hn:n<=64):
  A9 prog 185 #[.string s,.int .i64 (n:Nat)] w fun e a=>e=.returned (.string ⟨(IE inter n).toArray⟩)/\Below w.heap.size w a:=by
 have b:s.size<=10:=by
  have h:=(ZB inter).2;rw[<-hs] at h;exact h
 have h:=Any.strings_Repeat Tryz.lRepeat Qg7 s n w sX (Ef (Hf b hn) sY);rw[hs,X3] at h;exact h
end
end Go.Proofs.YtjjmalchelniiaaGreatDoor
