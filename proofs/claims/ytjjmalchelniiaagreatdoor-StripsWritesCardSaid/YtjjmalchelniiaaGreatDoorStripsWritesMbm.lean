/- StripsWrites, 39. No condition. -/
import Derived.Test.YtjjmalchelniiaaGreatDoorStripsWritesMa
import Derived.Test.YtjjmalchelniiaaGreatDoorStripsWritesMk
import Derived.Test.YtjjmalchelniiaaGreatDoorStripsWritesMt
import Derived.Test.YtjjmalchelniiaaGreatDoorStripsWritesMv
import Derived.Test.YtjjmalchelniiaaGreatDoorStripsWritesMw
import Derived.Test.YtjjmalchelniiaaGreatDoorStripsWritesMz
import Derived.Test.YtjjmalchelniiaaGreatDoorStripsWritesMbk
import Derived.Test.YtjjmalchelniiaaGreatDoorStripsWritesMbl
open Go.Proofs.Tryz
open Go renaming World->A5,Calls->A9
set_option maxHeartbeats 2000000
namespace Go.Proofs.YtjjmalchelniiaaGreatDoor
section
open Go.RowKit Go.Lib Go.Shelf
abbrev Ng:=@List.drop_zero
abbrev Nh:=@Nat.mul_le_mul_left
abbrev Ni:=@ntmps204
theorem xV:Builder.Extra prog Tryz.lJoin_ren where
 sizeBuilder:=by kernel_rfl
 liesBuilder:=by kernel_rfl
 t5:=Dy
 a5:=isAgg5
 z5:=sizeOf5
 v5:=zeroValue5
 infoByte:=by kernel_rfl
 cellsByte:=by kernel_rfl
 sizeByte:=by kernel_rfl
 neB5:=by decide
def P9 (l:List ByteArray):List UInt8:=(l.map (·.data.toList)).flatten
theorem dQ:∀l:List (List UInt8),Lib.join l []=l.flatten
 |[]=>rfl
 |[x]=>by rw[Lib.join_one];simp
 |x::y::r=>by
  rw[Lib.join_cons];simp[Lib.joinTail]
theorem Qen {w:A5}{base e:Nat}{v:Value}{l:List ByteArray}(h:w.ownsRow base e 1 v l.length (FD l))(c:0<l.length):
  ∃(b cap:Nat),v=.slice (some ⟨b,0,none⟩) l.length cap/\l.length<=cap/\b<w.heap.size/\∀(j:Nat) x,l[j]? =some x->w.cell? ⟨b,j,none⟩=some (.string x):=by
 have c:=h;rcases h.2 with ⟨rfl,h1⟩|⟨g,cap,d,rfl,_,f,a⟩
 ·omega
 ·refine⟨g,cap,rfl,by first|exact a.1|exact a.2.1|omega,(Am.1 f).1,fun i x hi=>?_⟩;have:=Dm (g:=g) c rfl i (.string x) (by simp[FD,hi]);rwa [Gc,Ar] at this
theorem uZ (b c:Nat)(l:List ByteArray)(w:A5)(a:∀(j:Nat) x,l[j]? =some x->w.cell? ⟨b,j,none⟩=some (.string x))(d:b<w.heap.size)(hc:l.length<=c)(hn:l.length<=1048576)(hl:(P9 l).length<=1048576):
  A9 prog 208 #[.slice (some ⟨b,0,none⟩) l.length c,.string ⟨#[]⟩] w fun e f=>e=.returned (.string ⟨(P9 l).toArray⟩)/\Below w.heap.size w f:=by
 have h:=Any.strings_Join Tryz.lJoin xV b 0 c l ⟨#[]⟩ w (fun j x hj=>by rw[Ar];exact a j x hj) d (by omega) hc;rw[show (⟨#[]⟩:ByteArray).data.toList=[] from rfl,dQ] at h;exact h (by have:(P9 l).length=(l.map (·.data.toList)).flatten.length:=rfl;omega)
end
section
open Go.RowKit Go.Lib
theorem Vk (i:Bool)(d:Int)(w:A5)(h:HL i d=true):A9 prog 204 #[.bool i,.int .i64 d] w fun e g=>e=.returned (.tuple #[.string ⟨(dcB i d).toArray⟩,.int .i64 0])/\Below w.heap.size w g:=by
 cases i with
 |false=>
  have c:d=0:=by simpa [HL] using h
  subst c
  go_enter func204,Ni
  go_wp2
  go_ret2
  exact⟨rfl,Dq _ _⟩
 |true=>
  have c:1<=d/\d<=254:=by simpa [HL] using h
  obtain⟨h1,h2⟩:=c;have t0:decide (d<1)=false:=by simp;omega
  have t1:decide (254<d)=false:=by simp;omega
  by_cases b:d=128
  ·subst b;have a:=fun x=>Qx 255 8 x (by decide) (by decide +kernel);have F:=Dp (show (⟨(dcB true 128).toArray⟩:ByteArray)=⟨(AB (255:Int).toNat (8:Int).toNat).toArray⟩ from rfl);rw[F.out];generalize (⟨(AB (255:Int).toNat (8:Int).toNat).toArray⟩:ByteArray)=y at a ⊢
   go_enter func204,Ni
   go_wp2_with fail
   refine(a _).mono ?_;rintro e j ⟨rfl,f⟩
   go_wp2
   go_ret2
   exact⟨rfl,f⟩
  ·have k:(d==128)=false:=by rw[Fg];exact b
   have a:=fun x=>Qx d 8 x (by omega) (by
    unfold F4;rw[Fi];refine⟨by omega,by omega,by omega,?_⟩;rw[show (2:Int)^(8:Int).toNat=256 from rfl];omega)
   have F:=Dp (show (⟨(dcB true d).toArray⟩:ByteArray)=⟨(AB d.toNat (8:Int).toNat).toArray⟩ by unfold dcB;rw[Bc rfl,Bb b];rfl);rw[F.out];generalize (⟨(AB d.toNat (8:Int).toNat).toArray⟩:ByteArray)=y at a ⊢;clear b h h1 h2 F
   go_enter func204,Ni
   go_wp2_with fail
   refine(a _).mono ?_;rintro e j ⟨rfl,f⟩
   go_wp2
   go_ret2
   exact⟨rfl,f⟩
theorem tP (i:Bool)(d:Int)(w:A5)(h:HL i d=false):A9 prog 204 #[.bool i,.int .i64 d] w fun e a=>e=.returned (.tuple #[.string ⟨#[]⟩,.int .i64 7])/\w=a:=by
 cases i with
 |false=>
  have b:(d==0)=false:=h;clear h
  go_enter func204,Ni
  go_wp2
  go_ret2
  exact⟨rfl,rfl⟩
 |true=>
  by_cases h1:d<1
  ·have t0:decide (d<1)=true:=by simpa using h1
   clear h
   go_enter func204,Ni
   go_wp2
   go_ret2
   exact⟨rfl,rfl⟩
  ·have t0:decide (d<1)=false:=by simpa using h1
   have t1:decide (254<d)=true:=by
    have h2:(decide (1<=d)&&decide (d<=254))=false:=h;rw[Kn (by omega:1<=d),Gr,Lb] at h2;simp;omega
   clear h h1
   go_enter func204,Ni
   go_wp2
   go_ret2
   exact⟨rfl,rfl⟩
def Hh (i:Bool)(d:Int)(l:List Ev):List ByteArray:=⟨(dcB i d).toArray⟩::l.map CW
theorem kD (i:Bool)(d:Int)(l:List Ev):P9 (Hh i d l)=BE i d l:=by
 unfold P9 Hh BE BS;rw[Cm,List.flatten_cons,List.map_map,List.flatMap]
 rfl
theorem sE (i:Bool)(d:Int)(l:List Ev):(Hh i d l).length=l.length+1:=by simp[Hh]
theorem sD (i:Bool)(d:Int)(l:List Ev)(x:Ev):Hh i d (l++[x])=Hh i d l++[CW x]:=by simp[Hh]
theorem oU (x:Ev)(h:DY x.2.1 x.2.2=true):(!(DL x.1 x.2.1 x.2.2).data.toList.isEmpty)=true:=by
 obtain⟨b,r1,_⟩:=JK.1 h;have h3:=R5 x.1 x.2.1.toNat x.2.2 (by omega);unfold DL;rw[Bc h];show (!(AB _ _).isEmpty)=true;cases hl:AB (DD x.1 x.2.1.toNat x.2.2) (DC x.1 x.2.1.toNat x.2.2) with
 |nil=>
  have e:=BB (DD x.1 x.2.1.toNat x.2.2) (DC x.1 x.2.1.toNat x.2.2);rw[hl,By] at e;omega
 |cons a l=>rfl
set_option maxRecDepth 100000 in
theorem uE (i:Bool)(d:Int)(p:Option Addr)(l:List Ev)(c:Nat)(w:A5)(hp:D3 w p l)(hT:BK w)(hm:CS i d l=true):
  A9 prog 189 #[.bool i,.int .i64 d,.slice p l.length c] w fun e w'=>e=.returned (.tuple #[.string ⟨(BE i d l).toArray⟩,.int .i64 0])/\Below w.heap.size w w':=by
 obtain⟨hd,K⟩:=Po hm;have ah:=OH K;obtain⟨i0,hi,aw,ax,ay⟩:=Dv VY;obtain⟨B,hB⟩:=Ah w.heap.size;have R:=fun x=>TI i x;have t:=fun(x:A5) (S:Below w.heap.size w x)=>Y1 p l c ((BA i:Nat):Int) x (hp.below S) (by omega);unfold NW at t;rw[W4 K] at t;have A:=NF (lvG l ((BA i:Nat):Int)).1
 have T:(prog.info? 180).map (·.size)=some (CY (lvG l ((BA i:Nat):Int)).1).size:=NP _;obtain⟨Y,hY⟩:=Ah (CY (fun _=>0));have az:∀w,(zeroValue 180).run prog w=.ok (.agg Y) w:=by rw[<-hY];exact PJ
 have U:Y.size=(CY (lvG l ((BA i:Nat):Int)).1).size:=by rw[<-hY,KC,KC]
 generalize CY (lvG l ((BA i:Nat):Int)).1=Z at t A T U;generalize ((BA i:Nat):Int)=fr at R t;have V:=fun x=>Vk i d x hd;obtain⟨y0,W⟩:∃y0:ByteArray,⟨(dcB i d).toArray⟩=y0:=⟨_,rfl⟩;rw[W] at V;have a0:=Dp t;have bi:=Dp (fun(x:A5) (S:Below B w x)=>(hp.below (by rw[hB];exact S):D3 x p l))
 have bj:=Dp (fun(x:A5) (S:Below B w x)=>(hT.below (by rw[hB];exact S):BK x));have a1:=Dp (show∀j,(h:j<l.length)->(!(DL l[j].1 l[j].2.1 l[j].2.2).data.toList.isEmpty)=true from fun j h=>oU _ (kB K h));have ai:=Dp (kD i d l);have a2:=Dp (QC i d l);have a3:=Dp (show Hh i d []=[y0] by rw[<-W];rfl)
 have a4:=Dp (fun(j:Nat) (h:j<l.length)=>(by rw[Be h,sD]:Hh i d (l.take (j+1))=Hh i d (l.take j)++[CW l[j]]));have a5:=Dp hB;obtain⟨n,hn⟩:=Ah l.length;have av:=Dp hn;have a6:=Dp (fun(j:Nat) (h:j<=n)=>(by rw[sE,Bf];omega:(Hh i d (l.take j)).length=j+1));rw[hn] at ah ⊢
 generalize aj:(⟨(BE i d l).toArray⟩:ByteArray)=RB;have a7:=Dp aj;clear hp hT t hY hd K hm W hB hn aj
 go_enter func189,ntmps189
 go_wp2_with fail
 refine(V _).mono ?_;rintro e w1 ⟨rfl,a⟩
 go_wp2_with fail
 refine(R _).mono ?_;rintro e L ⟨rfl,rfl⟩
 go_wp2_with fail
 have C:=a0.out _ a;rw[av.out] at C;refine C.mono ?_;rintro e L ⟨rfl,r⟩;rw[a5.out] at a;have D:B<=w1.heap.size:=by rw[<-a5.out];exact a.size
 have ak:=a.trans (r.mono D);have al:B<=L.heap.size:=Eg D r.size;obtain⟨X,hX⟩:=Ah L.heap.size;have M:=heap_alloc_new L (.cells Y 180 (0,0));have E:=ak.alloc al (.cells Y 180 (0,0));have Q:(L.alloc (.cells Y 180 (0,0))).heap.size=X+1:=by simp;omega
 rw[hX] at M;generalize am:L.alloc (.cells Y 180 (0,0))=w4 at M E Q;have a8:=Dp am;have a9:=Dp hX;have u:=Dp (show B<=X by omega);clear am hX a r ak al D C V R
 go_wp2_with (rw[a8.out,a9.out];with_reducible refine B4 rfl 180 _ _ rfl X Z Y rfl rfl 180 M T U A ?_;intro w5 ba aa;clear az)
 have an:=E.grown aa (by have:=u.out;omega) (fun k hk=>by injection hk with hk;have:=u.out;omega);have ab:B<=w5.heap.size:=by have:=u.out;have:=aa.size;omega
 have f:(w5.alloc (.cells #[.string y0] 9 (0,0))).ownsRow B 9 1 (.slice (some ⟨w5.heap.size,0,none⟩) 1 1) 1 (FD [y0]):=World.ownsRow_lit w5 #[.string y0] 1 ab (by unfold maxLen;omega) rfl;have ac:=an.alloc ab (.cells #[.string y0] 9 (0,0));have ad:B<=(w5.alloc (.cells #[.string y0] 9 (0,0))).heap.size:=by simp;omega
 generalize w5.alloc (.cells #[.string y0] 9 (0,0))=w7 at f ac ad ⊢;generalize w5.heap.size=bk at f ⊢;clear M E Q ba aa an ab T A U
 go_loopw [12,40] (fun v z wr=>∃j:Nat,j<=n/\z=.int .i64 j/\wr.ownsRow B 9 1 v (j+1) (FD (Hh i d (l.take j)))/\Below B w wr/\B<=wr.heap.size) (fun _ z _=>n-(RowKit.intOf z).toNat)
 case atStart=>exact⟨0,Ds _,rfl,by rw[Bi,a3.out];exact f,ac,ad⟩
 case round=>
  clear f ac ad;obtain⟨j,hj,rfl,m,hb,hz⟩:=hrel;by_cases ao:j<n
  ·have t0:decide ((j:Int)<(n:Int))=true:=by simp;omega
   have t1:decide (j<n)=true:=by simpa using ao
   have O:j<l.length:=by rw[av.out];exact ao
   obtain⟨b,o,rfl,bb,hc⟩:=(bi.out _ hb).at (by omega);obtain⟨c0,c1,c2⟩:=hc j O;have P:=a1.out j O;have F:=a4.out j O;obtain⟨⟨x0,x1,x2⟩,ap⟩:=Ah (l[j]);rw[ap] at c0 c1 c2 P F;simp only at c0 c1 c2 P;rw[show CW (x0,x1,x2)=DL x0 x1 x2 from rfl] at F;have s:=fun x S=>Qdh x0 x1 x2 x S;rw[P] at s;generalize DL x0 x1 x2=y at s F
   have N:=Dp (show FD (Hh i d (l.take (j+1)))=FD (Hh i d (l.take j))++[.string y] by rw[F,Up]);obtain⟨X,hX⟩:=Ah wr.heap.size;obtain⟨wx,G⟩:=Ah (wr.alloc (.cells #[.bool x0,.int .i64 x1,.int .i64 x2] 153 (0,0)));have bc:wx.heap.size=X+1:=by rw[<-G,<-hX];simp
   have ae:Below B w wx:=by rw[<-G];exact hb.alloc (by omega) _
   have aq:wx.ownsRow B 9 1 u12 (j+1) (FD (Hh i d (l.take j))):=by rw[<-G];exact m.alloc _
   have a9:=Dp hX;have bd:=Dp G;have u:=Dp (show B<=X by omega);clear hX G hc bb ap F P O m hb
   go_wp2_with fail
   rw[bd.out,a9.out];refine(s _ (bj.out _ ae)).mono ?_;rintro e w1 ⟨rfl,a⟩;have r:=ae.trans (a.mono (by have:=u.out;omega));have bf:B<=w1.heap.size:=by have:=a.size;have:=u.out;omega
   have ar:=aq.kept (BZ a none) (Classical.em _);clear ae aq a s bc
   go_wp2_with (at_builtin;refine ZL (y0:=y) rfl rfl underlying163 hi aw rfl ax ay rfl (ar.alloc _) rfl ?d1 ?d2 ?d3 ?_;(case d1=>go_cell);(case d2=>omega);(case d3=>(simp;omega));intro v2 L bg H;have au:World.grownBy _ L (Value.ownBlock u12):=H;have E:=(r.alloc bf _).grown au (by simp;omega) (fun q hq=>(ar.lt q hq).1);have bh:B<=L.heap.size:=Eg (by simp;omega) au.size;clear H)
   go_roundw
   case rel=>exact⟨j+1,by omega,by go_num,by rw[N.out];exact bg,E,bh⟩
   case measure=>simp[RowKit.intOf];omega
  ·obtain rfl:j=n:=by omega
   have t0:decide ((j:Int)<(j:Int))=false:=by simp
   have t1:decide (j<j)=false:=by simp
   have I:=a6.out j (Ba _);rw[<-I] at m;obtain⟨g,cap,rfl,J,hg,af⟩:=Qen m (by omega);have ag:l.take j=l:=by rw[<-av.out];exact Js
   rw[ag] at af J I;have hj:=uZ g cap (Hh i d l) wr af hg J (by omega) (by rw[ai.out];have:=a2.out;rw[av.out] at this;omega);rw[ai.out,a7.out] at hj;rw[ag];rw[I] at hj ⊢;clear m af J ag
   go_wp2_with fail
   refine hj.mono ?_;rintro e w1 ⟨rfl,a⟩;have r:=hb.trans (a.mono hz)
   go_wp2
   go_ret2
   exact⟨rfl,by rw[a5.out];exact r⟩
set_option maxRecDepth 100000 in
theorem uT (i:Bool)(d:Int)(p:Option Addr)(l:List Ev)(c:Nat)(w:A5)(G:D3 w p l)(s:l.length<=140737488355328)(hm:CS i d l=false):
  A9 prog 189 #[.bool i,.int .i64 d,.slice p l.length c] w fun e S=>e=.returned (.tuple #[.string ⟨#[]⟩,.int .i64 7])/\Below w.heap.size w S:=by
 cases hd:HL i d with
 |false=>
  have b:=fun x=>tP i d x hd;generalize l.length=n;clear G hm hd s
  go_enter func189,ntmps189
  go_wp2_with fail
  refine(b _).mono ?_;rintro e P ⟨rfl,rfl⟩
  go_wp2
  go_ret2
  exact⟨rfl,Dq _ _⟩
 |true=>
  have t:DQ (BA i) l l.length=true:=by
   unfold CS at hm;rw[hd,Gr,Bool.not_eq_false'] at hm;exact hm
  obtain⟨B,Q⟩:=Ah w.heap.size;have m:=fun x=>TI i x;have a:=fun(x:A5) (T:Below w.heap.size w x)=>Y1 p l c ((BA i:Nat):Int) x (G.below T) (by omega);unfold NW at a;rw[XO t] at a;have j:=NF (lvG l ((BA i:Nat):Int)).1;have u:(prog.info? 180).map (·.size)=some (CY (lvG l ((BA i:Nat):Int)).1).size:=NP _;obtain⟨Y,H⟩:=Ah (CY (fun _=>0))
  have I:∀w,(zeroValue 180).run prog w=.ok (.agg Y) w:=by rw[<-H];exact PJ
  have v:Y.size=(CY (lvG l ((BA i:Nat):Int)).1).size:=by rw[<-H,KC,KC]
  generalize CY (lvG l ((BA i:Nat):Int)).1=Z at a j u v;generalize ((BA i:Nat):Int)=fr at m a;have b:=fun x=>Vk i d x hd;obtain⟨y0,y⟩:∃y0:ByteArray,⟨(dcB i d).toArray⟩=y0:=⟨_,rfl⟩;rw[y] at b;have J:=Dp a;have K:=Dp Q;obtain⟨n,hn⟩:=Ah l.length;have U:=Dp hn;rw[hn];clear G a H hd t hm y Q hn s
  go_enter func189,ntmps189
  go_wp2_with fail
  refine(b _).mono ?_;rintro e P ⟨rfl,f⟩
  go_wp2_with fail
  refine(m _).mono ?_;rintro e r ⟨rfl,rfl⟩
  go_wp2_with fail
  have g:=J.out _ f;rw[U.out] at g;refine g.mono ?_;rintro e r ⟨rfl,o⟩;rw[K.out] at f;have h:B<=P.heap.size:=by rw[<-K.out];exact f.size
  have z:=f.trans (o.mono h);have A:B<=r.heap.size:=Eg h o.size;obtain⟨X,L⟩:=Ah r.heap.size;have q:=heap_alloc_new r (.cells Y 180 (0,0));have C:=z.alloc A (.cells Y 180 (0,0));have D:(r.alloc (.cells Y 180 (0,0))).heap.size=X+1:=by simp;omega
  rw[L] at q;generalize E:r.alloc (.cells Y 180 (0,0))=w4 at q C D;have M:=Dp E;have V:=Dp L;have F:=Dp (show B<=X by omega);clear E L f o z A h g b m
  go_wp2_with (rw[M.out,V.out];with_reducible refine B4 rfl 180 _ _ rfl X Z Y rfl rfl 180 q u v j ?_;intro w5 W N;clear I)
  have O:=C.grown N (by have:=F.out;omega) (fun k R=>by injection R with R;have:=F.out;omega)
  go_ret2
  exact⟨rfl,by rw[K.out];exact O⟩
theorem uX (i:Bool)(d:Int)(p:Option Addr)(l:List Ev)(c b:Nat)(w:A5)(g:D3 w p l)(a:l.length<=140737488355328)(hm:CS i d l=false):
  A9 prog 172 #[.pointer (some ⟨b,0,none⟩),.bool i,.int .i64 d,.slice p l.length c] w fun e j=>e=.returned (.int .i64 7)/\Below w.heap.size w j:=by
 have h:=uT i d p l c w g a hm;generalize l.length=n at h ⊢
 go_enter func172,ntmps172
 go_wp2_with fail
 refine h.mono ?_;rintro e k ⟨rfl,f⟩
 go_wp2
 go_ret
 exact⟨rfl,f⟩
theorem Qmj (i:Bool)(d:Int)(p:Option Addr)(l:List Ev)(c B b:Nat)(r:List UInt8)(w:A5)(z:AQ w B b r)(hn:r.length<=274877906944)(A:B<=w.heap.size)(C:D3 w p l)(D:BK w)(hm:CS i d l=true):
  A9 prog 172 #[.pointer (some ⟨b,0,none⟩),.bool i,.int .i64 d,.slice p l.length c] w fun e E=>e=.returned (.int .i64 0)/\AQ E B b (r++BE i d l)/\w.grownBy E (some b):=by
 have h:=uE i d p l c w C D hm;have g:=OH (Po hm).2;have o:=QC i d l;have j:=Z5 i d l;have q:=Dp j;have a:=fun(x:A5) (m:AQ x B b r) (G:B<=x.heap.size)=>Si x B b r ⟨(BE i d l).toArray⟩ m (by simpa using q.out) (by show r.length+(BE i d l).toArray.size<=_;simp;omega) G;have f:(⟨(BE i d l).toArray⟩:ByteArray).data.toList=BE i d l:=by simp
 rw[f] at a;have F:=Dp a;have s:=Dp (fun(x:A5) (m:Below w.heap.size w x)=>(⟨z.below m,Eg A m.size⟩:AQ x B b r/\B<=x.heap.size));generalize (⟨(BE i d l).toArray⟩:ByteArray)=H at h a F;generalize l.length=n at h ⊢;clear a z hn A C D hm g o j f
 go_enter func172,ntmps172
 go_wp2_with fail
 refine h.mono ?_;rintro e I ⟨rfl,k⟩;obtain⟨t,u⟩:=s.out _ k
 go_wp2_with fail
 refine(F.out _ t u).mono ?_;rintro e J ⟨rfl,v,y⟩
 go_wp2
 go_ret
 exact⟨rfl,v,AR (BZ k _) y⟩
set_option maxRecDepth 100000 in
theorem rC (c:Cel)(sl:Nat->Value)(w:A5)(hs:HA w):A9 prog 117 #[.agg (AJ c sl).toArray] w fun e i=>e=.returned (.bool (FA c.kind c.step))/\Below w.heap.size w i:=by
 have b:=fun x (j:Below w.heap.size w x)=>aA c.step x (hs.below j);obtain⟨A,g,f0,f1,f2,f3,f4,f5,-,-⟩:=JL c sl;rw[g];have a:=(Dq _ w).alloc (Ba _) (.cells A 77 (0,0));have H:=b _ a;have f:Hid (FA c.kind c.step=if (c.kind==1 || c.kind==4) then !(C0 c.step).data.toList.isEmpty else c.step==0):=Dp rfl;clear g b hs;generalize FA c.kind c.step=z at *
 generalize (!(C0 c.step).data.toList.isEmpty)=l at *;generalize c.kind=h at *;generalize c.step=m at *;cases t0:(h==1) with
 |true=>
  rw[t0] at f
  go_enter func117,ntmps117
  go_wp2_with fail
  refine H.mono ?_;rintro e k ⟨rfl,d⟩
  go_wp2
  go_ret
  exact⟨AH (by rw[f.out];rfl),a.trans (d.mono a.size)⟩
 |false=>
  cases t1:(h==4) with
  |true=>
   rw[t0,t1] at f
   go_enter func117,ntmps117
   go_wp2_with fail
   refine H.mono ?_;rintro e k ⟨rfl,d⟩
   go_wp2
   go_ret
   exact⟨AH (by rw[f.out];rfl),a.trans (d.mono a.size)⟩
  |false=>
   rw[t0,t1] at f
   go_enter func117,ntmps117
   go_wp2
   go_ret
   exact⟨AH (by rw[f.out];rfl),a⟩
set_option maxRecDepth 100000 in
theorem Ypg (c:Cel)(sl:Nat->Value)(w:A5):A9 prog 118 #[.agg (AJ c sl).toArray] w fun e G=>e=.returned (.bool (HJ c.kind c.mx c.my))/\Below w.heap.size w G:=by
 have f:=fun x=>TS c sl x;have n:=fun x=>VN c.mx c.my x;have o:=fun x=>TN c.mx c.my x;have L:=aE c.mx c.my (AF c.mx) (AF c.my);have l:Hid (HJ c.kind c.mx c.my=if AD c.kind then c.mx==0&&c.my==0 else c.mx==AF c.mx&&c.my==AF c.my):=Dp rfl;obtain⟨A,m,f0,f1,f2,f3,f4,f5,-,-⟩:=JL c sl;obtain⟨R,w0,E,g,p,q,r,i⟩:=ND w m;simp only[m] at f;have j:=Dp i;rw[m]
 have H:=Dp g;have s:=Dp E;clear m g i E;generalize HJ c.kind c.mx c.my=z at *;generalize (c.mx==0&&c.my==0)=M at *;generalize (c.mx==AF c.mx&&c.my==AF c.my)=N at *;generalize AF c.mx=u at *;generalize AF c.my=v at *
 go_enter func118,ntmps118
 go_wp2_with (with_reducible refine N5 rfl 77 _ rfl w.heap.size rfl 77 A (0,0) _ (heap_alloc_new w _) N0 rfl r ?_)
 rw[H.out,s.out];refine(f _).mono ?_;rintro e a ⟨rfl,b⟩;rw[p] at b;obtain⟨I,c1,c2,c3,c4,t⟩:=FL (j.out a b).2;have J:=b.size;have k:=q.trans (b.mono (by omega));cases hik:AD c.kind with
 |true=>
  rw[hik] at l
  go_wp2_with fail
  refine(n _).mono ?_;rintro e O ⟨rfl,B⟩;have C:=k.trans (B.mono (by omega))
  go_wp2
  go_ret
  exact⟨AH (by rw[l.out];rfl),by rw[s.out];exact C⟩
 |false=>
  rw[hik] at l;have F:=Dp (fun x (d:Below a.heap.size a x)=>FL (c:=c) (sl:=sl) (j.out x (b.trans (d.mono (by omega)))).2);have K:=Dp (fun x (d:Below a.heap.size a x)=>((o x).mono fun e y h=>⟨h.1,d.trans (h.2.mono d.size)⟩:A9 prog 152 #[.agg #[.int .i64 c.mx,.int .i64 c.my]] x fun e y=>e=.returned (.agg #[.int .i64 u,.int .i64 v])/\Below a.heap.size a y))
  have D:=(Dq a.heap.size a).drew;clear I c1 c2 c3 c4 t
  go_wp2
  refine BY (S:=fun x=>Below a.heap.size a x) 6 (by kernel_rfl) (by kernel_rfl) D ?_;simp only[Dt,Bi,Hb,Ng];refine AG ?_;simp only[A1];refine AP (v:=.agg #[.int .i64 c.mx,.int .i64 c.my]) (by kernel_rfl) (fun x d=>by obtain⟨-,-,-,-,c4,t⟩:=F.out x d;go_simp) ?_;simp only[A1];refine AG ?_;simp only[A1]
  refine AP (v:=.agg #[.int .i64 c.mx,.int .i64 c.my]) (by kernel_rfl) (fun x d=>by obtain⟨-,-,-,-,c4,t⟩:=F.out x d;go_simp) ?_;simp only[A1];refine AS (by kernel_rfl) K.out (fun _=>by kernel_rfl) ?_;simp only[A1];refine AG ?_;simp only[A1];refine BV fun x d=>?_
  go_wp2
  go_ret
  exact⟨AH (by rw[l.out];rfl),by rw[s.out];exact k.trans (d.mono (by omega))⟩
set_option maxRecDepth 100000 in
theorem Yj (c:Cel)(p:Nat->Option Addr)(n k:Nat->Nat)(B b:Nat)(r:List UInt8)(w:A5)(f:AQ w B b r)(hr:r.length<=137438953472)(hB:B<=w.heap.size)(q:∀x,w.grownBy x (some b)->BK x/\GZ x c p n):
  A9 prog 153 #[.pointer (some ⟨b,0,none⟩),.agg (AJ c fun i=>.slice (p i) (n i) (k i)).toArray] w fun e w'=>∃i,i<=6/\AQ w' B b (r++BC c i)/\w.grownBy w' (some b)/\((i=6/\EY c=true/\e=.returned (.int .i64 0))\/(EY c=false/\e=.returned (.int .i64 7))):=by
 have v:=fun x=>TS c (fun i=>.slice (p i) (n i) (k i)) x;obtain⟨A,I,f0,f1,f2,f3,f4,f5,⟨f6,f7,f8,f9,f10,f11⟩,f12,f13,f14,f15,f16,f17⟩:=JL c fun i=>.slice (p i) (n i) (k i);obtain⟨R,w0,hR,J,ao,K,aa,d⟩:=ND w I;simp only[I] at v;have ap:=Dp d;rw[I];have aq:=Dp J;have ar:=Dp hR;have au:=Dp I;have ab:b≠R:=by have h1:=f.lt;omega
 have L:some R≠some b:=fun h=>by injection h with h;exact ab h.symm
 have ac:=Dp (fun i hi x=>VJ (fun i=>.slice (p i) (n i) (k i)) x i hi);have ad:=Dp q;have M:=Dp v;have s:=Dp (show EY c=true↔_ from NV);obtain⟨G,C⟩:=Ah (AD c.kind);have D:=Dp C;rw[C] at M;have N:w.grownBy w0 (some b):=BZ (hR▸K) _
 have O:AQ w0 B b (r++BC c 0):=by rw[show r++BC c 0=r from Fb _];exact f.below (hR▸K)
 have t:=(d w0 (Dq _ _)).1;clear I J d hR f q v C
 go_enter func153,ntmps153
 go_wp2
 rw[aq.out,ar.out]
 go_loopw [10] (fun z wr=>∃i:Nat,i<=6/\z=.int .i64 i/\AQ wr B b (r++BC c i)/\w.grownBy wr (some b)/\wr.heap[R]? =some (.cells A 77 (0,0))/\Hid (∀j,j<i->CS G (c.dc j) (c.ev j)=true)) (fun z _=>6-(RowKit.intOf z).toNat)
 case atStart=>exact⟨0,by omega,rfl,O,N,t,Dp fun j h=>absurd h (Fk j)⟩
 case round=>
  clear O N t;obtain⟨i,P,rfl,f,Q,d,E⟩:=hrel;by_cases l:i<6
  ·have t0:decide ((i:Int)<6)=true:=by simp;omega
   have i0:=ac.out i l;obtain⟨H,hc⟩:=ad.out _ Q;obtain⟨e1,e2,e3⟩:=hc i l;have ae:B<=wr.heap.size:=Eg hB Q.size;have T:R<wr.heap.size:=by have:=(Am.1 d).1;exact this
   have U:(r++BC c i).length<=274877906944:=by
    have h1:=QR (c:=c) (n:=64) i fun j hj=>OH (Po (E.out j hj)).2;have h2:(8+22*64)*i<=(8+22*64)*6:=Nh _ P;rw[B9];omega
   have af:=Dp (fun x (a:Below wr.heap.size wr x)=>(a.block R T).trans d);have V:(AJ c fun i=>.slice (p i) (n i) (k i)).toArray=A:=au.out;have av:=Dp (fun x (a:Below wr.heap.size wr x)=>AA (o:=6+i) (show x.heap[R]? =some (.cells (AJ c fun i=>.slice (p i) (n i) (k i)).toArray 77 (0,0)) by rw[V];exact af.out x a) (JM c _ i l))
   have aw:=Dp (fun x (a:Below wr.heap.size wr x)=>(M.out x).mono fun e y h=>(⟨h.1,a.trans (h.2.mono a.size)⟩:e=.returned (.bool G)/\Below wr.heap.size wr y));have ag:=(Dq wr.heap.size wr).drew;have u:∀x,Below wr.heap.size wr x->AQ x B b (r++BC c i)/\B<=x.heap.size/\D3 x (p i) (c.ev i)/\BK x:=fun x a=>⟨f.below a,Eg ae a.size,e3.below a,H.below a⟩
   have W:=Dp u;have an:=Dp Q;have ah:=Dp U;have ai:=Dp e1;have aj:=Dp e2;clear H hc e1 e2 e3 u f Q U V
   go_wp2
   refine BY (S:=fun x=>Below wr.heap.size wr x) 8 (by kernel_rfl) (by kernel_rfl) ag ?_;simp only[Dt,Bi,Hb,Ng];refine AG ?_;simp only[A1];refine IZ 77 _ R 77 A (0,0) _ (by kernel_rfl) rfl rfl (fun x a=>af.out x a) N0 rfl aa ?_;simp only[A1];refine AS (by kernel_rfl) aw.out (fun _=>by kernel_rfl) ?_;simp only[A1]
   iterate 2 (refine AG ?_;simp only[A1])
   refine AP (by kernel_rfl) (fun x _=>by go_simp;rw[Bc (by omega)]) ?_;simp only[A1];refine AN 3 _ ⟨R,6+i,none⟩ (.int .i64 (c.dc i)) (by kernel_rfl) rfl rfl (fun x a=>by have c0:=av.out x a;go_simp) ?_;simp only[A1];refine AG ?_;simp only[A1];refine BV fun x a=>?_;obtain⟨f,ak,hp,H⟩:=W.out x a;by_cases hm:CS G (c.dc i) (c.ev i)=true
   ·have g:=Qmj G (c.dc i) (p i) (c.ev i) (k i) B b (r++BC c i) x f ah.out ak hp H hm;rw[<-ai.out] at g;have al:=Dp hm;clear hm f hp H
    go_wp2_with fail
    refine g.mono ?_;rintro e w2 ⟨rfl,m,X⟩;have ax:=Dp (show BC c (i+1)=BC c i++BE G (c.dc i) (c.ev i) by rw[<-D.out];rfl);rw[Bd,<-ax.out] at m;have Y:=(X.block R (Bg T a.size) L).trans (af.out x a);have F:=AR an.out (AR (BZ a (some b)) X)
    go_wp2
    go_roundw
    case rel=>exact⟨i+1,by omega,by go_num,m,F,Y,Dp fun j hj=>(Nat.lt_succ_iff_lt_or_eq.1 hj).elim (E.out j) fun h=>h▸al.out⟩
    case measure=>simp[RowKit.intOf];omega
   ·have g:=uX G (c.dc i) (p i) (c.ev i) (k i) b x hp (by rw[<-ai.out];have:=aj.out;omega) (by simpa using hm);rw[<-ai.out] at g;have al:=Dp hm;have am:=Dp f;clear hm f hp H
    go_wp2_with fail
    refine g.mono ?_;rintro e w2 ⟨rfl,Z⟩;have m:=am.out.below Z;have F:=AR an.out (AR (BZ a (some b)) (BZ Z _))
    go_wp2
    go_ret
    refine⟨i,P,m,F,.inr ⟨?_,rfl⟩⟩;refine Bool.eq_false_iff.2 fun h=>al.out ?_;rw[<-D.out];exact s.out.1 h i l
  ·obtain rfl:i=6:=by omega
   go_wp2
   go_ret
   refine⟨6,by omega,f,Q,.inl ⟨rfl,?_,rfl⟩⟩;rw[s.out,D.out];exact E.out
end
section
open Go.RowKit Go.Lib Go.Shelf
theorem xG:Builder.Extra prog Tryz.lRepeat_ren where
 sizeBuilder:=by kernel_rfl
 liesBuilder:=by kernel_rfl
 t5:=Dy
 a5:=isAgg5
 z5:=sizeOf5
 v5:=zeroValue5
 infoByte:=by kernel_rfl
 cellsByte:=by kernel_rfl
 sizeByte:=by kernel_rfl
 neB5:=by decide
theorem V3 (inter:Bool):∀n,Lib.repeatL (K7 inter) n=D5 inter n
 |0=>rfl
 |n+1=>by rw[MP,<-V3 inter n];rfl
theorem uW (inter:Bool)(n:Nat)(s:ByteArray)(w:A5)(hs:s.data.toList=K7 inter)(hn:n<=64):
  A9 prog 185 #[.string s,.int .i64 (n:Nat)] w fun e a=>e=.returned (.string ⟨(D5 inter n).toArray⟩)/\Below w.heap.size w a:=by
 have b:s.size<=10:=by
  have h:=(Xm inter).2;rw[<-hs] at h;exact h
 have h:=Any.strings_Repeat Tryz.lRepeat xG s n w (by omega) (Eg (Ha b hn) (by decide));rw[hs,V3] at h;exact h
end
end Go.Proofs.YtjjmalchelniiaaGreatDoor
