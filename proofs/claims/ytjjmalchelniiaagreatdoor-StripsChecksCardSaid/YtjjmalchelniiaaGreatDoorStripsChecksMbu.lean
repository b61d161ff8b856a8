/- StripsChecks, 47. No condition. -/
import Derived.Test.YtjjmalchelniiaaGreatDoorStripsChecksMa
import Derived.Test.YtjjmalchelniiaaGreatDoorStripsChecksMj
import Derived.Test.YtjjmalchelniiaaGreatDoorStripsChecksMn
import Derived.Test.YtjjmalchelniiaaGreatDoorStripsChecksMp
import Derived.Test.YtjjmalchelniiaaGreatDoorStripsChecksMq
import Derived.Test.YtjjmalchelniiaaGreatDoorStripsChecksMr
import Derived.Test.YtjjmalchelniiaaGreatDoorStripsChecksMy
import Derived.Test.YtjjmalchelniiaaGreatDoorStripsChecksMbm
import Derived.Test.YtjjmalchelniiaaGreatDoorStripsChecksMbp
import Derived.Test.YtjjmalchelniiaaGreatDoorStripsChecksMbr
import Derived.Test.YtjjmalchelniiaaGreatDoorStripsChecksMbs
import Derived.Test.YtjjmalchelniiaaGreatDoorStripsChecksMbt
open Go.Proofs.Tryz
open Go renaming World->A5,Value->A0,TypeId->A7,Calls->A9
set_option maxHeartbeats 8000000
namespace Go.Proofs.YtjjmalchelniiaaGreatDoor
section
open Go.RowKit
theorem Wr {inter:Bool}{k first:Int}:∀(cs:List Cel) (vs:List (Int×Int)),cs.all (BE inter)=true->(GB inter k first vs cs).length<=20000*cs.length
 |[],_,_=>Ba _
 |c::cs,vs,h=>by
  rw[Gy,Am] at h;rw[GB,B9,Ao];have h1:=Xa h.1 (DK vs (Bx k) first).1 (DK vs (Bx k) first).2;have h2:=Wr (k:=k) (first:=first) cs (vs++[(c.mx,c.my)]) h.2;omega
theorem gN (i p:Nat)(r:RowP):(FH i p r).length<=36:=by
 unfold FH;cases r.head with
 |true=>
  rw[Bc rfl,vC];unfold gap;omega
 |false=>exact Dn _
theorem Vs {inter:Bool}{k:Int}{N M:Nat}(a:36+20000*N<=M):∀(rs:List RowP) (i p:Nat) (vs:List (Int×Int)) (first:Int),AP (DJ inter (N:Int)) i rs=true->(F2 inter k i p vs first rs).length<=M*rs.length
 |[],_,_,_,_,_=>Dn _
 |r::rs,i,p,vs,first,h=>by
  rw[AP,Am] at h;have hr:=h.1;unfold DJ at hr;rw[Am,Fb,Am] at hr;obtain⟨hc,-,b⟩:=hr;rw[F2];have h1:=gN i p r;have h2:=Wr (k:=k) (first:=ET k i first r) r.cels vs b;have h3:=Vs (k:=k) a rs (i+1) (p+(FH i p r).length+(GB inter k (ET k i first r) vs r.cels).length) (vs++CM r.cels) (ET k i first r) h.2
  rw[B9,B9,Ao,Nat.mul_succ];have c:r.cels.length=N:=by omega
  rw[c] at h2;omega
theorem Sl {S:ShP}(h:BT S=0):Ec S.hd=true/\(0<=S.zeros/\S.zeros<=262144)/\((S.rows.length:Int)=BC S.hd.fmt/\S.rows.length<=18)/\∃N:Nat,BA S.hd.fmt=(N:Int)/\(0<N/\N<=352)/\AP (DJ S.hd.inter (N:Int)) 0 S.rows=true:=by
 obtain⟨h1,-⟩:=XM h;unfold EL at h1;simp only[Am,Fb] at h1;obtain⟨hm,b,hn,hr⟩:=h1;have c:=(KM.1 hm).2.1;have d:0<BA S.hd.fmt/\BA S.hd.fmt<=352/\BC S.hd.fmt<=18:=by
  have a:S.hd.fmt=1\/S.hd.fmt=2\/S.hd.fmt=3\/S.hd.fmt=4\/S.hd.fmt=5\/S.hd.fmt=6:=by omega
  rcases a with a|a|a|a|a|a <;> rw[a] <;> decide +kernel
 refine⟨hm,b,⟨hn,by omega⟩,(BA S.hd.fmt).toNat,by omega,by omega,?_⟩;rw[Cb (by omega)];exact hr
theorem Zv {S:ShP}(h:BT S=0)(r:List UInt8):(H8 r S).length<=r.length+130000000:=by
 obtain⟨hm,-,⟨-,a⟩,N,-,b,hr⟩:=Sl h;have c:=(KM.1 hm).2.2.1;have h1:=Vs (k:=S.hd.fmt) (N:=N) (M:=7040036) (by omega) S.rows 0 (HX r S).length [] 0 hr;have h2:7040036*S.rows.length<=7040036*18:=Nat.mul_le_mul_left _ a;unfold H8 KQ;generalize F2 S.hd.inter S.hd.fmt 0 (HX r S).length [] 0 S.rows=d at *;rw[B9,QU,B9,IB,QD];unfold gap;omega
theorem sH {S:ShP}(h:BT S=0)(r:List UInt8):(FX r S).length<=r.length+134217728:=by
 obtain⟨-,a,-,-⟩:=Sl h;have h1:=Zv h r;rw[SL];simp only[B9,Bp];unfold gap;omega
theorem Y3 {inter:Bool}{k first:Int}:∀(cs:List Cel) (vs:List (Int×Int)),AK (GB inter k first vs cs)=true
 |[],_=>rfl
 |c::cs,vs=>by rw[GB,CX,aF,Y3 cs];rfl
theorem Wz {inter:Bool}{k:Int}:∀(rs:List RowP) (i p:Nat) (vs:List (Int×Int)) (first:Int),AK (F2 inter k i p vs first rs)=true
 |[],_,_,_,_=>rfl
 |r::rs,i,p,vs,first=>by
  rw[F2,CX,CX,Y3,Wz rs];unfold FH;cases r.head with
  |true=>rw[Bc rfl,fX];rfl
  |false=>rfl
theorem uZ (p:Nat)(S:ShP):AK (E6 p S)=true:=by
 unfold E6 KQ JW;rw[CX,CX,CX,CX,Zu,vF,Wz,P1,P1];rfl
end
section
open Go.RowKit Go.Lib
section
variable {w z:A5}{B b:Nat}{r:List UInt8}
theorem NS {g c:Nat}{cs b:Array A0}{T d:A7}(h:w.heap[g]? =some (.cells cs T (0,0)))(a:w.heap[c]? =some (.cells b d (0,0)))(e:T≠d):g≠c:=by
 rintro rfl;rw[h] at a;injection a with a;injection a with _ a;exact e a
theorem GK.typed (a:∀(g:Nat) (cs:Array A0),w.heap[g]? =some (Obj.cells cs 116 (0,0))->z.heap[g]? =some (Obj.cells cs 116 (0,0))):∀{k:Nat} {v:A0},GK w B r k v->GK z B r k v
 |0,_,c=>c
 |_+1,_,⟨g,v',e,hg,hh,c⟩=>⟨g,v',e,hg,a g _ hh,c.typed a⟩
theorem AN.typed (h:AN w B b r)(a:∀(g:Nat) (cs:Array A0) (T:A7),(T=111\/T=116)->w.heap[g]? =some (Obj.cells cs T (0,0))->z.heap[g]? =some (Obj.cells cs T (0,0))):AN z B b r:=by
 obtain⟨h1,h2,v,h3,h4⟩:=h;exact⟨h1,h2,v,a _ _ _ (.inl rfl) h3,h4.typed fun g cs c=>a g cs _ (.inr rfl) c⟩
theorem PI {base e c n j:Nat}{v:A0}{b:List A0}(h:w.ownsRow base e c v n b)(hj:v.ownBlock=some j):∃a,w.heap[j]? =some (.cells a e (0,0)):=by
 rcases h.2 with ⟨rfl,_⟩|⟨g,cap,a,rfl,_,d,_⟩
 ·cases hj
 ·injection hj with hj;exact⟨a,hj▸d⟩
end
structure Ygw (w:A5) (W S V A b B:Nat) (r:List UInt8) (zs:List A0) (k:Int) (vv:A0) (vs:List (Int×Int)):Prop where
 bw:w.heap[W]? =some (.cells [.pointer (some ⟨b,0,none⟩)].toArray 66 (0,0))
 bs:w.heap[S]? =some (.cells zs.toArray 39 (0,0))
 bv:w.heap[V]? =some (.cells [vv].toArray 98 (0,0))
 ba:w.heap[A]? =some (.cells [.int .i64 (Bx k)].toArray 3 (0,0))
 wr:AN w B b r
 vec:w.ownsRow 0 73 2 vv vs.length (HT vs)
section
variable {w z:A5}{W S V A b B:Nat}{r r':List UInt8}{zs:List A0}{k:Int}{vv vv':A0}{vs:List (Int×Int)}
theorem Ygw.block {g:Nat}{cs:Array A0}{T:A7}{L:List (Option Nat)}(h:w.heap[g]? =some (.cells cs T (0,0)))(a:Yae L w z)(b:some g∉L):z.heap[g]? =some (.cells cs T (0,0)):=
 (a.block g (An.1 h).1 b).trans h
theorem Ygw.below (h:Ygw w W S V A b B r zs k vv vs)(a:Below w.heap.size w z):Ygw z W S V A b B r zs k vv vs where
 bw:=Ygw.block h.bw (Yae.below (L:=[]) a) (by simp)
 bs:=Ygw.block h.bs (Yae.below (L:=[]) a) (by simp)
 bv:=Ygw.block h.bv (Yae.below (L:=[]) a) (by simp)
 ba:=Ygw.block h.ba (Yae.below (L:=[]) a) (by simp)
 wr:=h.wr.below a
 vec:=rQ h.vec a
theorem AN.block {w:A5}{B b:Nat}{r:List UInt8}(h:AN w B b r):∃cs,w.heap[b]? =some (.cells cs 111 (0,0)):=by
 obtain⟨-,-,v,h3,-⟩:=h;exact⟨_,h3⟩
theorem Ygw.wrote (h:Ygw w W S V A b B r zs k vv vs)(i:w.grownBy z (some b))(l:AN z B b r'):Ygw z W S V A b B r' zs k vv vs:=by
 obtain⟨cs,hc⟩:=h.wr.block;have a:∀{g:Nat} {c:Array A0} {T:A7},T≠111->w.heap[g]? =some (.cells c T (0,0))->z.heap[g]? =some (.cells c T (0,0)):=fun m f=>
  (i.block _ (An.1 f).1 fun e=>by injection e with e;exact NS f hc m e).trans f
 exact{
  bw:=a (by decide) h.bw
  bs:=a (by decide) h.bs
  bv:=a (by decide) h.bv
  ba:=a (by decide) h.ba
  wr:=l
  vec:=LR h.vec (M:=[some b]) (Yae.one i fun j _ e=>by rw[e];exact Df.2 rfl) fun j hj hm=>by
   have e:=Df.1 hm;injection e with e;obtain⟨n,d⟩:=PI h.vec hj;exact NS d hc (by decide) e}
theorem Ygw.more {v:Int×Int}(h:Ygw w W S V A b B r zs k vv vs)(p:w.grownBy z vv.ownBlock)(ho:z.ownsRow 0 73 2 vv' (vs.length+1) (HT vs++[.int .i64 v.1,.int .i64 v.2])):
  Ygw (z.setCell ⟨V,0,none⟩ vv') W S V A b B r zs k vv' (vs++[v]):=by
 have c:∀{g:Nat} {d:Array A0} {T:A7},T≠73->w.heap[g]? =some (.cells d T (0,0))->z.heap[g]? =some (.cells d T (0,0)):=fun l i=>
  (p.block _ (An.1 i).1 fun e=>by
   obtain⟨m,f⟩:=PI h.vec e.symm;exact NS i f l rfl).trans i
 have n:=c (by decide) h.bv;have hs:z.grownBy (z.setCell ⟨V,0,none⟩ vv') (some V):=DC z ⟨V,0,none⟩ vv';have a:∀{g:Nat} {d:Array A0} {T:A7},T≠98->z.heap[g]? =some (.cells d T (0,0))->(z.setCell ⟨V,0,none⟩ vv').heap[g]? =some (.cells d T (0,0)):=fun l i=>
  (hs.block _ (An.1 i).1 fun e=>by injection e with e;exact NS i n l e).trans i
 exact{
  bw:=a (by decide) (c (by decide) h.bw)
  bs:=a (by decide) (c (by decide) h.bs)
  bv:=B3 (o:=0) vv' n
  ba:=a (by decide) (c (by decide) h.ba)
  wr:=h.wr.typed fun g cs T l i=>by
   rcases l with rfl|rfl
   ·exact @a _ _ 111 (by decide) (@c _ _ 111 (by decide) i)
   ·exact @a _ _ 116 (by decide) (@c _ _ 116 (by decide) i)
  vec:=by
   rw[B9,Vp];exact LR ho (M:=[some V]) (Yae.set _ (Df.2 rfl)) fun j hj hm=>by
    have e:=Df.1 hm;injection e with e;obtain⟨m,f⟩:=PI ho hj;exact NS f n (by decide) e}
end
section
variable {u w:A5}{W S V A b B n m ca cb:Nat}{r:List UInt8}{zs:List A0}{k:Int}{vv:A0}{vs:List (Int×Int)}
set_option maxRecDepth 100000 in
theorem fT (hd:Shd)(p q:Option Addr)(z:Int)(U:AN w B b r):
  A9 prog 104 #[.pointer (some ⟨b,0,none⟩),.agg (AQ hd (.slice p n ca) (.slice q m cb) z).toArray] w fun e O=>∃W S V A,e=.returned (.func (.func 138) #[] #[.pointer (some ⟨W,0,none⟩),.pointer (some ⟨S,0,none⟩),.pointer (some ⟨V,0,none⟩),.pointer (some ⟨A,0,none⟩)])/\
   Ygw O W S V A b B r (AQ hd (.slice p n ca) (.slice q m cb) z) hd.fmt (.slice none 0 0) []/\Below w.heap.size w O/\w.heap.size<=W/\w.heap.size<=S/\w.heap.size<=V/\w.heap.size<=A:=by
 have X:∀(P:Fn) (first cap:Array A0) (w:A5),(Instr.makeFunc P first cap).run prog w=.ok (.func P first cap) w:=fun _ _ _ _=>rfl;obtain⟨zs,y⟩:=Ai (AQ hd (.slice p n ca) (.slice q m cb) z);have Y:zs[2]? =some (.int .i64 hd.fmt):=by rw[<-y];rfl
 rw[y];have Z:=fun x=>Pb hd.fmt x;generalize hd.fmt=k at *;obtain⟨R,w1,w2,C,f,g,D,h,i,c,j⟩:=JF w (.cells #[.pointer (some ⟨b,0,none⟩)] 66 (0,0)) (.cells zs.toArray 39 (0,0));have k2:=A2 (o:=2) c Y;obtain⟨aa,w3,Q,E,l,s,F,G,t,u,a⟩:=JF w2 (.cells #[.int .i64 (Bx k)] 3 (0,0)) (.cells #[.slice none 0 0] 98 (0,0));obtain rfl:aa=R+2:=by omega
 have d:Below R w Q:=j.trans (a.mono (by omega));have v:Ygw Q R (R+1) (R+3) (R+2) b B r zs k (.slice none 0 0) []:={
  bw:=(a.block R (by omega)).trans i
  bs:=(a.block (R+1) (by omega)).trans c
  bv:=u
  ba:=t
  wr:=U.below (C▸d)
  vec:=Dj ..}
 have H:=Dl f;have I:=Dl g;have J:=Dl l;have K:=Dl s;have T:=Dl C;have L:=Dl h;have M:=Dl v;have N:=Dl d;clear v d i c t u j a f g l s C E D h F G y
 go_enter func104,ntmps104
 go_wp2_with fail
 rw[H.out,I.out,T.out];refine(Z _).mono ?_;rintro e x ⟨rfl,rfl⟩
 go_wp2
 rw[J.out,K.out,L.out]
 go_ret
 rw[T.out];exact⟨R,R+1,R+3,R+2,rfl,M.out,N.out,by omega,by omega,by omega,by omega⟩
set_option maxRecDepth 100000 in
theorem cC {c:Cel}{cs:List A0}{inter:Bool}{first:Int}(h:Ygw w W S V A b B r zs k vv vs)(N:zs[3]? =some (.bool inter))(hu:Below u.heap.size u w)(hN:u.heap.size<=b)(hB:B<=w.heap.size)(ht:Ybq u.heap.size u)
  (hc:EZ u c cs)(O:∀i,i<6->(c.ev i).length<=1048576)(hm:BE inter c=true)(hr:r.length<=60000000000)(hn:vs.length<=1048575)(hk:Bx k<=1000):
  A9 prog 138 #[.agg cs.toArray,.int .i64 first,.pointer (some ⟨W,0,none⟩),.pointer (some ⟨S,0,none⟩),.pointer (some ⟨V,0,none⟩),.pointer (some ⟨A,0,none⟩)] w fun e P=>e=.returned (.tuple #[])/\
   ∃vv',Ygw P W S V A b B (r++DZ inter (DK vs (Bx k) first).1 (DK vs (Bx k) first).2 c) zs k vv' (vs++[(c.mx,c.my)])/\Yae [some b,some V,vv.ownBlock] w P/\∀j,vv'.ownBlock=some j->vv.ownBlock=some j\/w.heap.size<=j:=by
 obtain⟨Q,d,ah,R⟩:=UM rfl h.vec;subst ah;obtain⟨p,cap,f,ai,he⟩:=hc;have T:FP u c p fun i=>(c.ev i).length:=fun i hi=>⟨rfl,O i hi,(he i hi).2⟩;obtain⟨Z,U⟩:=Ai cs.toArray;have aj:(prog.info? 77).map (·.size)=some Z.size:=by rw[<-U,f];exact OR ..
 obtain⟨C,I⟩:=Ai w.heap.size;obtain⟨w0,g⟩:=Ai (w.alloc (.cells Z 77 (0,0)));have l:Below w.heap.size w w0:=by rw[<-g];exact(Dm _ w).alloc (Ba _) _
 have ak:w0.heap[C]? =some (.cells Z 77 (0,0)):=by rw[<-g,<-I];exact heap_alloc_new w _
 have a0:w0.heap.size=C+1:=by rw[<-g,<-I];simp
 have D:=h.below l;have X:=R.mono l;have m:Below u.heap.size u w0:=hu.trans (l.mono hu.size);have a1:b<C:=by rw[<-I];exact h.wr.lt
 have a2:V<C:=by rw[<-I];exact(An.1 h.bv).1
 obtain⟨⟨J,K⟩,E⟩:=Ai (DK vs (Bx k) first)
 have a3:=Dl (fun(x:A5) (a:Below w0.heap.size w0 x)=>(XC (fun i=>vs.getD i (0,0)) Q vs.length d (Bx k) first x (X.mono a) (by unfold maxLen;omega) (by omega)).mono fun e y (z:Rq _ x e y)=>
  (⟨by rw[z.1,show NC (fun i=>vs.getD i (0,0)) vs.length (Bx k) first=(J,K) from E];rfl,a.trans (z.2.mono a.size)⟩:e=.returned (.agg #[.int .i64 J,.int .i64 K])/\Below w0.heap.size w0 y))
 have Y:∀x,Below w0.heap.size w0 x->∀z,x.grownBy z (some b)->Below u.heap.size u z:=fun x a z hz=>(m.trans (a.mono m.size)).grown hz (m.trans (a.mono m.size)).size (fun j hj=>by injection hj with hj;omega);have av:=Dl (fun(x:A5) (a:Below w0.heap.size w0 x)=>(by
  have h1:=xT inter J K c p (fun i=>(c.ev i).length) cap B b r x (D.below a).wr (by omega) (by have:=a.size;omega) (fun z hz=>by
   have hk:=Y x a z hz;have h:=ht.below hk;exact⟨Ybq.here h.pats h.mvd h.steps h.tcoef,T.below hk⟩) hm
  rw[<-f,U] at h1;exact h1:A9 prog 139 #[.pointer (some ⟨b,0,none⟩),.bool inter,.agg #[.int .i64 J,.int .i64 K],.agg Z] x fun e P=>e=.returned (.int .i64 0)/\AN P B b (r++DZ inter J K c)/\x.grownBy P (some b)))
 have a4:=Dl (fun(x:A5) (a:Below w0.heap.size w0 x)=>A2 (o:=0) (D.below a).bw rfl);have a5:=Dl (fun(x:A5) (a:Below w0.heap.size w0 x)=>A2 (o:=3) (D.below a).bs N);have a6:=Dl (fun(x:A5) (a:Below w0.heap.size w0 x)=>A2 (o:=0) (D.below a).bv rfl);have a7:=Dl (fun(x:A5) (a:Below w0.heap.size w0 x)=>A2 (o:=0) (D.below a).ba rfl)
 have aw:=Dl (fun(x:A5) (a:Below w0.heap.size w0 x)=>((a.block C (by omega)).trans ak:x.heap[C]? =some (.cells Z 77 (0,0))));have a8:=Dl D;have al:=Dl g;have ax:=Dl I;have aa:=Dl l;have v4:cs[4]? =some (.int .i64 c.mx):=by rw[f];rfl
 have v5:cs[5]? =some (.int .i64 c.my):=by rw[f];rfl
 have a9:=Dl U;have ba:=Dl v4;have bb:=Dl v5;have am:=(Dm w0.heap.size w0).drew;obtain⟨bh,ab⟩:=Ai (DZ inter J K c);rw[E,ab,U];rw[ab] at av;clear h N hu O hm hr ai he T f U I g l R X m E Y D v4 v5 hk ht hN hB
 go_enter func138,ntmps138
 go_upto_region 1 with fail
 rw[al.out,ax.out];refine BU (S:=fun x=>Below w0.heap.size w0 x) 8 (by kernel_rfl) (by kernel_rfl) am ?_;simp only[Dp,Bk,Gs,Gt];refine AR 66 _ ⟨W,0,none⟩ (.pointer (some ⟨b,0,none⟩)) (by kernel_rfl) rfl rfl (fun x a=>by have c0:=a4.out x a;go_simp) ?_;simp only[A1];refine AJ ?_;simp only[A1]
 refine AR 4 _ ⟨S,3,none⟩ (.bool inter) (by kernel_rfl) rfl rfl (fun x a=>by have c0:=a5.out x a;go_simp) ?_;simp only[A1];refine AR 98 _ ⟨V,0,none⟩ (.slice Q vs.length d) (by kernel_rfl) rfl rfl (fun x a=>by have c0:=a6.out x a;go_simp) ?_;simp only[A1];refine AR 3 _ ⟨A,0,none⟩ (.int .i64 (Bx k)) (by kernel_rfl) rfl rfl (fun x a=>by have c0:=a7.out x a;go_simp) ?_;simp only[A1]
 refine AJ ?_;simp only[A1];refine AY (by kernel_rfl) a3.out (fun _=>by kernel_rfl) ?_;simp only[A1];refine FJ 77 _ C 77 Z (0,0) _ (by kernel_rfl) rfl rfl (fun x a=>aw.out x a) J2 rfl aj ?_;simp only[A1];refine BS fun x a=>?_
 go_wp2_with fail
 refine(av.out _ a).mono ?_;rintro e s ⟨rfl,ac,n⟩;have h2:=(a8.out.below a).wrote n ac;have t:=(n.block C (by have:=a.size;omega) (fun e=>by injection e with e;omega)).trans (aw.out _ a);have an:s.rangeAt C 4 [.int .i64 c.mx,.int .i64 c.my]:=fun j v hj=>by
  rw[<-a9.out] at t
  match j,hj with
  |0,hj=>injection hj with hj;subst hj;exact A2 t ba.out
  |1,hj=>injection hj with hj;subst hj;exact A2 t bb.out
 have kv:=A2 (o:=0) h2.bv rfl;obtain⟨ti,j0,j1,j2,j3⟩:=Wt;have ao:=h2.vec;obtain⟨wP,q⟩:=Ai (s.alloc (.cells #[.int .i64 c.mx,.int .i64 c.my] 73 (0,0)));have F:Below s.heap.size s wP:=by rw[<-q];exact(Dm _ s).alloc (Ba _) _
 have hP:=h2.below F;have ad:=hP.vec;have c0:wP.cell? ⟨s.heap.size,0,none⟩=some (.int .i64 c.mx):=by rw[<-q];exact A2 (cs:=[.int .i64 c.mx,.int .i64 c.my]) (heap_alloc_new s _) rfl
 have c1:wP.cell? ⟨s.heap.size,1,none⟩=some (.int .i64 c.my):=by rw[<-q];exact A2 (cs:=[.int .i64 c.mx,.int .i64 c.my]) (heap_alloc_new s _) rfl
 have ay:C+1<=s.heap.size:=by have:=a.size;have:=n.size;omega
 have bc:=Dl h2;have ap:=Dl n;have bd:=Dl a;have ag:=Dl hP;have ae:=Dl F;have aq:=Dl q;clear q h2 n a hP F ao t ac
 go_wp2_with (first|(with_reducible refine mI rfl _ rfl C 4 rfl c.mx c.my an ?_)|(at_builtin;rw[aq.out];refine qA (v:=.slice Q vs.length d) (y0:=c.mx) (y1:=c.my) rfl rfl underlying98 j0 j1 rfl j2 j3 rfl ad rfl ?c1 ?c2 ?c3 ?_;(case c1=>exact c0);(case c2=>exact c1);(case c3=>omega);intro q8 az w8 ar G au;have H:=(G.block V (An.1 ag.out.bv).1 (fun e=>by obtain⟨bf,af⟩:=PI ad e.symm;exact NS ag.out.bv af (by decide) rfl)).trans ag.out.bv;have bg:=A2 (o:=0) H rfl;have f8:w8.frozen? ⟨V,0,none⟩=false:=AW H;clear H))
 go_end0
 refine⟨rfl,_,ag.out.more (v:=(c.mx,c.my)) G ar,?_,?_⟩
 ·have g1:Yae [some b,some V,(Value.slice Q vs.length d).ownBlock] w x:=Yae.below (aa.out.trans (bd.out.mono aa.out.size));have g2:=g1.trans (M:=[some b]) (Yae.one ap.out fun j _ e=>by rw[e];exact Df.2 rfl) fun j _ hm=>by rw[Df.1 hm];exact Eu ..
  have g3:=g2.trans (Yae.below (L:=[]) ae.out) (by simp);have g4:=g3.trans (M:=[(Value.slice Q vs.length d).ownBlock]) (Yae.one G fun j _ e=>by rw[e];exact Df.2 rfl) fun j _ hm=>by rw[Df.1 hm];exact Et _ (Et _ (Eu ..))
  exact g4.trans (M:=[some V]) (Yae.set _ (Df.2 rfl)) fun j _ hm=>by rw[Df.1 hm];exact Et _ (Eu ..)
 ·intro j hj;rcases au j hj with h|h
  ·exact .inl h
  ·exact .inr (by have:=ae.out.size;have:=ax.out;omega)
end
theorem mE {i:Nat}(k:Int)(hi:i<=1000):IntKind.i64.wrap ((i:Int)*BG k)=(i:Int)*BG k:=by
 obtain⟨c,d,a,b,e⟩:=P5 k;have h1:0<=(i:Int)*BG k:=Int.mul_nonneg (by omega) a;have h2:(i:Int)*BG k<=1000*100:=Int.mul_le_mul (by omega) b a (by omega);exact DA (by omega)
theorem bM {inter:Bool}{N:Nat}{rs:List RowP}(h:AP (DJ inter (N:Int)) 0 rs=true){i:Nat}(hi:i<rs.length):
  rs[i].cels.length=N/\(∀c∈rs[i].cels,BE inter c=true)/\(rs[i].head=true->i≠0/\∃a q:Nat,rs[i].id=(a:Int)/\rs[i].quant=(q:Int)/\a<=3/\1<=q/\q<=31):=by
 have h1:=NM.1 h i hi;rw[As] at h1;unfold DJ at h1;rw[Am,Fb,Am] at h1;obtain⟨hc,b,d⟩:=h1;refine⟨by omega,Bu.1 d,fun hd=>?_⟩;rw[hd,Bc rfl,Fb] at b;exact⟨b.1,rs[i].id.toNat,rs[i].quant.toNat,by omega,by omega,by omega,by omega,by omega⟩
theorem oT {inter:Bool}{k:Int}{rs:List RowP}(i:Nat)(R:List UInt8)(vs:List (Int×Int))(first:Int)(hi:i<rs.length):
  GH inter k i R vs first (rs.drop i)=GH inter k (i+1) (IS inter k (ET k i first rs[i]) (R++FH i R.length rs[i]) vs rs[i].cels) (vs++CM rs[i].cels) (ET k i first rs[i]) (rs.drop (i+1)):=by
 rw[Fi hi];exact dI ..
set_option maxRecDepth 100000 in
theorem kX {u w:A5}{B b:Nat}{r:List UInt8}{N:Nat}(S:ShP)(p q:Option Addr)(ca cb:Nat)(hS:EC u q S.rows)(ht:Ybq u.heap.size u)(hu:Below u.heap.size u w)(hN:u.heap.size<=b)(hB:B<=w.heap.size)(hw:AN w B b r)
  (cg:S.rows.length<=18)(d0:0<N/\N<=352)(hm:AP (DJ S.hd.inter (N:Int)) 0 S.rows=true)(ba:∀c∈BI S,∀k,k<6->(c.ev k).length<=1048576)(l:(GH S.hd.inter S.hd.fmt 0 r [] 0 S.rows).length<=60000000000):
  A9 prog 72 #[.pointer (some ⟨b,0,none⟩),.agg (AQ S.hd (.slice p S.hd.supp.length ca) (.slice q S.rows.length cb) S.zeros).toArray] w fun e w'=>e=.returned (.tuple #[])/\AN w' B b (GH S.hd.inter S.hd.fmt 0 r [] 0 S.rows)/\w.grownBy w' (some b):=by
 have cf:=fun x=>PN S.hd.fmt x;have ch:Bx S.hd.fmt<=1000:=by have:=(HR S.hd.fmt).1;have:=(P5 S.hd.fmt).2.2.2.2;omega
 have wm:=fun(i:Nat) (hi:i<=1000)=>mE S.hd.fmt hi;have rm:=fun(i:Nat) (hi:i<S.rows.length)=>bM hm hi;have bb:=fun(i:Nat) (hi:i<S.rows.length) c (hc:c∈S.rows[i].cels)=>ba c (Nw.2 ⟨_,Bl hi,hc⟩);have bc:=fun(i:Nat) (R:List UInt8) (vs:List (Int×Int)) (first:Int) (hi:i<S.rows.length)=>oT (inter:=S.hd.inter) (k:=S.hd.fmt) i R vs first hi
 have ak:=fun(R:List UInt8) (vs:List (Int×Int)) (first:Int)=>(show GH S.hd.inter S.hd.fmt S.rows.length R vs first (S.rows.drop S.rows.length)=R by rw[List.drop_length];exact tN ..);obtain⟨T,hT⟩:=Ai (GH S.hd.inter S.hd.fmt 0 r [] 0 S.rows);rw[hT] at l ⊢;have bd:GH S.hd.inter S.hd.fmt 0 r [] 0 (S.rows.drop 0)=T:=hT
 have bf:∀(i:Nat) (R:List UInt8) (vs:List (Int×Int)) (first:Int) (rs:List RowP),GH S.hd.inter S.hd.fmt i R vs first rs=T->R.length<=60000000000:=fun i R vs first rs h=>by
  rw[<-h] at l;unfold GH at l;rw[B9] at l;omega
 have pc:=fun(x:A5) (R:List UInt8) (E:AN x B b R)=>fT (w:=x) (n:=S.hd.supp.length) (m:=S.rows.length) (ca:=ca) (cb:=cb) S.hd p q S.zeros E;obtain⟨zs,hZ⟩:=Ai (AQ S.hd (.slice p S.hd.supp.length ca) (.slice q S.rows.length cb) S.zeros);have z2:zs[2]? =some (.int .i64 S.hd.fmt):=by rw[<-hZ];rfl
 have z3:zs[3]? =some (.bool S.hd.inter):=by rw[<-hZ];rfl
 have z6:zs[6]? =some (.slice q S.rows.length cb):=by rw[<-hZ];rfl
 have bg:(prog.info? 39).map (·.size)=some zs.toArray.size:=by rw[show zs.toArray.size=8 by rw[<-hZ];rfl];kernel_rfl
 rw[hZ] at pc ⊢;obtain⟨D,hD⟩:=Ai w.heap.size;obtain⟨w1,F⟩:=Ai (w.alloc (.cells zs.toArray 39 (0,0)));have ac:Below w.heap.size w w1:=by rw[<-F];exact(Dm _ w).alloc (Ba _) _
 have ci:w1.heap.size=D+1:=by rw[<-F,<-hD];simp
 have av:w1.heap[D]? =some (.cells zs.toArray 39 (0,0)):=by rw[<-F,<-hD];exact heap_alloc_new w _
 have al:=hw.below ac;have d1:b<D:=by rw[<-hD];exact hw.lt
 obtain⟨ds,bh,d2⟩:=Ps;obtain⟨dt,cj,d3⟩:=MK;have d4:u.heap.size<=D:=by rw[<-hD];exact hu.size
 have U:=Dl (fun(x:A5) (E:Yae [some b] w x)=>((hu.trans (E.under (N:=u.heap.size) (by omega) fun k d=>by have e:=Df.1 d;injection e with e;omega)):Below u.heap.size u x));generalize d5:S.hd.fmt=k at *;generalize d6:S.hd.inter=inter at *;obtain⟨n,aw⟩:=Ai S.rows.length;rw[aw] at cg;have k2:=A2 (o:=2) av z2
 have k6:∀x,Below w1.heap.size w1 x->x.cell? ⟨D,6,none⟩=some (.slice q n cb):=fun x E=>by rw[<-aw];exact A2 ((E.block D (by omega)).trans av) z6
 have ck:=Dl F;have cc:=Dl hD;have cl:=Dl aw;have cm:=Dl hS;have cn:=Dl bd;have ei:=Dl k6;have bi:=Dl bf;have d7:=Dl bc;have bj:=Dl ak;have d8:=Dl rm;have co:=Dl bb;have d9:=Dl wm;have cp:=Dl ht;have du:=Dl hB;have ea:=Dl z3;have eb:=Dl ac;have am:Yae [some b] w w1:=Yae.below ac
 clear hZ F hD hS bd bf bc ak rm bb wm ht hB z2 z3 z6 hu hm ba l hT ac hw
 go_enter func72,ntmps72
 go_wp2_with (with_reducible refine N5 rfl 39 _ rfl _ rfl 39 zs.toArray (0,0) _ (heap_alloc_new w _) Nv rfl bg ?_)
 rw[ck.out,cc.out];refine(pc _ _ al).mono ?_;rintro e w2 ⟨W,cd,V,A,rfl,bk,G,l1,l2,l3,l4⟩;have cq:=(Fz (a:=⟨D,2,none⟩) (G.block D (by omega))).trans k2;have cr:=k6 _ G;have bl:Yae [some b] w w2:=am.trans (Yae.below (L:=[]) G) (by simp);have ct:D<w2.heap.size:=by have:=G.size;omega
 have ej:=Dl (fun(x:A5) (E:Yae [some b] w2 x)=>((E.block D ct (fun hm=>by have e:=Df.1 hm;injection e with e;omega)):x.heap[D]? =w2.heap[D]?));have ec:Hid (D<=W/\D<=cd/\D<=V/\D<=A):=Dl (by omega);clear k2 k6 av pc al am G l1 l2 l3 l4 ci
 go_wp2_with fail
 refine(cf _).mono ?_;rintro e x ⟨rfl,rfl⟩
 go_wp2
 go_loopw [7,24] (fun f t wr=>∃(i:Nat) (first:Int) (vv:A0) (vs:List (Int×Int)) (R:List UInt8),f=.int .i64 first/\t=.int .i64 (i:Int)/\i<=n/\Ygw wr W cd V A b B R zs k vv vs/\Hid (GH inter k i R vs first (S.rows.drop i)=T)/\Yae [some b] w wr/\(∀j,vv.ownBlock=some j->D<=j)/\Hid (vs.length<=1000*i)) (fun _ t _=>n-(RowKit.intOf t).toNat)
 case atStart=>exact⟨0,0,_,[],r,rfl,rfl,Dn _,bk,cn,bl,(fun j hj=>by cases hj),Dl (Dn _)⟩
 case round=>
  clear bk bl cq cr;obtain⟨i,first,vv,vs,R,rfl,rfl,hi,hp,hT,hg,s,bm⟩:=hrel;by_cases cu:i<n
  ·have t1:decide ((i:Int)<(n:Int))=true:=by simp;omega
   have ad:i<S.rows.length:=by rw[cl.out];exact cu
   obtain⟨b1,o1,bn,dv,bo⟩:=JM cm.out (by rw[cl.out];omega);obtain⟨rq,cap,hq,cv,H,ax⟩:=bo i ad;have ae:=d7.out i R vs first ad
   rw[hT.out] at ae;obtain⟨cw,ay,ce⟩:=d8.out i ad;have cx:=co.out i ad;have cy:=d9.out i (by omega);obtain⟨row,an⟩:=Ai (S.rows[i]);rw[an] at cv H ax ae cw ay ce cx;subst bn;obtain⟨rs,I⟩:=Ai ([Value.bool row.head,.int .i64 row.id,.int .i64 row.quant,.slice rq row.cels.length cap]);have rl:rs.length=4:=by rw[<-I];rfl
   have ro:rs.toArray.all (·.oneCell')=true:=by rw[<-I];simp[Value.oneCell']
   have az:wr.rangeAt b1 (o1+i*4) rs:=fun k v d=>by
    obtain⟨a0,a1,a2,a3⟩:=ax wr (U.out _ hg);rw[<-I] at d
    match k,d with
    |0,d=>injection d with d;subst d;exact a0
    |1,d=>injection d with d;subst d;exact a1
    |2,d=>injection d with d;subst d;exact a2
    |3,d=>injection d with d;subst d;exact a3
   have cz:(prog.info? 46).map (·.size)=some rs.toArray.size:=by rw[show rs.toArray.size=4 from rl];kernel_rfl
   have c0:ds.size=rs.toArray.size:=by rw[bh];exact rl.symm
   obtain⟨K,hK⟩:=Ai wr.heap.size;obtain⟨wB,J⟩:=Ai (wr.alloc (.cells rs.toArray 46 (0,0)));have bp:Below wr.heap.size wr wB:=by rw[<-J];exact(Dm _ wr).alloc (Ba _) _
   have bq:wB.heap[K]? =some (.cells rs.toArray 46 (0,0)):=by rw[<-J,<-hK];exact heap_alloc_new wr _
   have ed:wB.heap.size=K+1:=by rw[<-J,<-hK];simp
   have dw:=Dl (fun(x:A5) (E:wB.grownBy x (some b))=>(by
    have h:=(E.block K (by omega) (fun e=>by injection e with e;have:=hp.wr.lt;omega)).trans bq;rw[<-I] at h;exact⟨A2 (o:=0) h rfl,A2 (o:=1) h rfl,A2 (o:=2) h rfl,A2 (o:=3) h rfl⟩:x.cell? ⟨K,0,none⟩=some (.bool row.head)/\x.cell? ⟨K,1,none⟩=some (.int .i64 row.id)/\x.cell? ⟨K,2,none⟩=some (.int .i64 row.quant)/\x.cell? ⟨K,3,none⟩=some (.slice rq row.cels.length cap)))
   have af:=hp.below bp;have a4:Yae [some b] w wB:=hg.trans (Yae.below (L:=[]) bp) (by simp);have c1:=Dl J;have c2:=Dl hK;have br:=Dl H;have c3:=Dl ae;have y:=Dl cw;have bs:=Dl ay;have c4:=Dl cx;have c5:=Dl (bi.out i R vs first _ hT.out);have ee:D<=K:=by rw[<-hK,<-cc.out];exact hg.size
   have g:wB.grownBy wB (some b):=BR (Dm _ _) _;obtain⟨q0,q1,q2,q3⟩:=dw.out _ g;clear J hK I bq H ax bo ae cw ay cx an hT hp hg
   go_upto_if 30 with (first|(with_reducible refine Qg rfl _ rfl b1 (o1+i*4) rfl rs az rl ?_)|(with_reducible refine BZ rfl 46 _ _ rfl rs.toArray ds 46 rfl rfl cz c0 ro ?_;rw[c1.out,c2.out]))
   go_cut [7] (fun f wx=>∃a9,f=.int .i64 (ET k i first row)/\Ygw wx W cd V A b B a9 zs k vv vs/\Hid (a9=R++FH i R.length row)/\wB.grownBy wx (some b))
   case first=>
    cases hd:row.head with
    |false=>
     try rw[hd]
     go_wp2
     go_meet
     case rel=>exact⟨R,by unfold ET;rw[hd];rfl,af,Dl (by unfold FH;rw[hd];exact(Ew R).symm),g⟩
    |true=>
     obtain⟨c6,ia,iq,ha,a5,ef,bn,dx⟩:=ce hd;have c7:=fun(x:A5) (E:AN x B b R) (hz:B<=x.heap.size)=>lP x B b R i ia iq (by omega) E (by have:=c5.out;omega) hz;have c8:B<=wB.heap.size:=by have:=a4.size;have:=du.out;omega
     rw[ha] at q1;rw[a5] at q2;have bt:=Dl hd;have c9:=Dl ha;have da:=Dl a5
     try rw[hd]
     clear hd ha a5 c6 ce
     go_wp2_with fail
     refine(c7 _ af.wr c8).mono ?_;rintro e w5 ⟨rfl,db,z⟩;have ag:=af.wrote z db
     go_wp2
     go_meet
     case rel=>exact⟨_,by unfold ET;rw[bt.out];rfl,ag,Dl (by rw[Z4];unfold FH;rw[bt.out,Bc rfl,c9.out,da.out,Do,Do]),z⟩
   case rest=>
    obtain⟨a9,rfl,ag,bu,z⟩:=hcut;obtain⟨wk,rfl⟩:∃x,x=wc:=⟨_,rfl⟩;obtain⟨-,-,-,q3⟩:=dw.out _ z;obtain⟨f,hf⟩:=Ai (ET k i first row)
    have O:=c3.out;rw[<-bu.out,hf] at O;rw[hf];have bv:Yae [some b] w wk:=a4.trans (M:=[some b]) (Yae.one z fun j _ e=>by rw[e];exact Df.2 rfl) fun j _ h=>h;rw[y.out] at q3;have dy:row.cels.length=N:=y.out;obtain⟨bw,a6⟩:=Ai (IS inter k f a9 vs row.cels);rw[a6] at O;have ao:Hid (IS inter k f a9 vs (row.cels.drop 0)=bw):=Dl a6
    have dc:=Dl O;have dd:Hid (bw.length<=60000000000):=Dl (bi.out _ _ _ _ _ O.symm);clear af a4 g a6 O bu hf q0 q1 q2 ce cy z
    go_wp2
    go_loopw [44] (fun t wr=>∃(j:Nat) (ah:A0) (vz:List (Int×Int)) (ap:List UInt8),t=.int .i64 (j:Int)/\j<=N/\Ygw wr W cd V A b B ap zs k ah vz/\Hid (IS inter k f ap vz (row.cels.drop j)=bw)/\Yae [some b] w wr/\(∀j,ah.ownBlock=some j->D<=j)/\Hid (vz=vs++CM (row.cels.take j))) (fun t _=>N-(RowKit.intOf t).toNat)
    case atStart=>exact⟨0,vv,vs,a9,rfl,Dn _,ag,ao,bv,s,Dl (by simp[CM])⟩
    case round=>
     clear ag ao bv s q3;obtain⟨j,ah,vz,ap,rfl,hj,hp,P,hg,s,Q⟩:=hrel;by_cases de:j<N
     ·have t2:decide ((j:Int)<(N:Int))=true:=by simp;omega
      have ai:j<row.cels.length:=by rw[y.out];exact de
      obtain⟨b2,o2,df,dz,bx⟩:=BO.each br.out (by omega);obtain⟨cs,hV,bz⟩:=bx j ai;have X:=hV.shape.1;have b0:=OA hV;have az:wr.rangeAt b2 (o2+j*18) cs:=fun k v d=>bz wr (U.out _ hg) k v d;obtain⟨c,Y⟩:=Ai (row.cels[j]);have Z:c∈row.cels:=Y▸Bl ai
      have a7:IS inter k f ap vz (c::row.cels.drop (j+1))=bw:=by rw[<-Y,<-Fi ai];exact P.out
      rw[yX] at a7;have aq:vz++[(c.mx,c.my)]=vs++CM (row.cels.take (j+1)):=by
       rw[Q.out,Bd ai,Y];unfold CM;rw[Ck,Bf];rfl
      rw[Y] at hV;have ar:vz.length<=1048575:=by
       have h1:=bm.out;rw[Q.out];unfold CM;rw[B9,Gc,Be];omega
      have au:ap.length<=60000000000:=by
       have h1:=dd.out;have h2:=C8 List.length P.out;unfold IS at h2;rw[B9] at h2;omega
      obtain⟨C,hC⟩:=Ai wr.heap.size;obtain⟨wC,aj⟩:=Ai (wr.alloc (.cells cs.toArray 77 (0,0)));have dg:wC.heap[C]? =some (.cells cs.toArray 77 (0,0)):=by rw[<-aj,<-hC];exact heap_alloc_new wr _
      have a8:Below wr.heap.size wr wC:=by rw[<-aj];exact(Dm _ wr).alloc (Ba _) _
      have b3:=hp.below a8;have aa:Yae [some b] w wC:=hg.trans (Yae.below (L:=[]) a8) (by simp);have p1:=cC (first:=f) b3 ea.out (U.out _ aa) (by omega) (by have:=aa.size;have:=du.out;omega) cp.out hV (c4.out c Z) (bs.out c Z) au ar ch;have b4:(prog.info? 77).map (·.size)=some cs.toArray.size:=by rw[show cs.toArray.size=18 from X];kernel_rfl
      have dh:dt.size=cs.toArray.size:=by rw[cj];exact X.symm
      have di:=Dl aj;have dj:=Dl hC;have dk:=Dl a7;have b5:=Dl aq;have eg:D<=wC.heap.size:=by have:=aa.size;have:=cc.out;omega
      have eh:=b3;have dl:=Dl aa;subst df;clear aj hC hV bz bx P a7 Q aq hp hg a8 aa Y Z ar au
      go_wp2_with (first|(with_reducible refine Pu rfl _ rfl b2 (o2+j*18) rfl cs az X ?_)|(with_reducible refine BZ rfl 77 _ _ rfl cs.toArray dt 77 rfl rfl b4 dh b0 ?_;rw[di.out,dj.out])|(with_reducible refine N5 rfl 77 _ rfl C rfl 77 cs.toArray (0,0) _ dg J2 rfl b4 ?_))
      refine p1.mono ?_;rintro e w6 ⟨rfl,dm,dn,dp,dq⟩
      go_wp2
      go_roundw
      case rel=>
       refine⟨j+1,dm,_,_,by go_num,by omega,dn,dk,dl.out.trans dp fun t ht hm=>?_,fun t ht=>?_,b5⟩
       ·have h:=cc.out;have hl:=ec.out;rcases Eb.1 hm with e|hm
        ·rw[e];exact Df.2 rfl
        ·rcases Eb.1 hm with e|hm
         ·injection e with e;omega
         ·have e:=Df.1 hm;have:=s t e.symm;omega
       ·rcases dq t ht with h|h
        ·exact s t h
        ·omega
      case measure=>simp[RowKit.intOf];omega
     ·obtain rfl:N=j:=by omega
      have t2:decide ((N:Int)<(N:Int))=false:=by simp
      have b6:row.cels.drop N=[]:=by rw[<-y.out,List.drop_length]
      have b7:row.cels.take N=row.cels:=by rw[<-y.out,Iy]
      have b8:ap=bw:=by
       have h1:=P.out;rw[b6,sM] at h1;exact h1
      have ab:vz=vs++CM row.cels:=by rw[Q.out,b7]
      have dr:Hid (GH inter k (i+1) ap vz f (S.rows.drop (i+1))=T):=Dl (by rw[b8,ab];exact dc.out.symm);have b9:Hid (vz.length<=1000*(i+1)):=Dl (by
       have h1:=bm.out;rw[ab];unfold CM;rw[B9,Gc,y.out];omega)
      clear b6 b7 b8 ab Q P
      go_wp2
      go_roundw
      case rel=>exact⟨i+1,f,ah,vz,ap,rfl,by go_num,by omega,hp,dr,hg,s,b9⟩
      case measure=>simp[RowKit.intOf];omega
  ·obtain rfl:n=i:=by omega
   have t1:decide ((n:Int)<(n:Int))=false:=by simp
   have hR:R=T:=by
    have h1:=hT.out;rw[<-cl.out,bj.out] at h1;exact h1
   subst hR
   go_wp2
   go_end0
   exact⟨rfl,hp.wr,hg.lone fun j _ hm=>by have e:=Df.1 hm;injection e⟩
def KC (u:A5)(S:ShP)(vs:List A0):Prop:=ShV u S vs/\S.rows.length<=4611686018427387904/\∀c∈BI S,∀k,k<6->(c.ev k).length<=1048576
theorem KC.sizes {u:A5}{S:ShP}{vs:List A0}(h:KC u S vs):(prog.info? 39).map (·.size)=some vs.toArray.size/\vs.toArray.size=8/\vs.toArray.all (·.oneCell')=true:=by
 obtain⟨p,q,ca,cb,rfl,-⟩:=h.1;exact⟨by rw[show (AQ S.hd (.slice p S.hd.supp.length ca) (.slice q S.rows.length cb) S.zeros).toArray.size=8 from rfl];kernel_rfl,rfl,PG ..⟩
section
variable {u w:A5}{B b:Nat}{r:List UInt8}{S:ShP}{vs:List A0}
theorem UA (i:KC u S vs)(ht:Ybq u.heap.size u)(a:Below u.heap.size u w):A9 prog 20 #[.agg vs.toArray] w fun e j=>e=.returned (.int .i64 (BT S))/\Below w.heap.size w j:=by
 obtain⟨⟨p,q,ca,cb,rfl,b,l,d,f⟩,hn,g⟩:=i;refine kS S p q ca cb w b hn (d.below a) (f.below a) g fun c p n k x m hc=>?_;have h:=ht.below (a.trans (m.mono a.size));exact X7 S.hd.inter c p n k x hc h.tcoef h.steps
set_option maxRecDepth 100000 in
theorem gI (hS:KC u S vs)(ht:Ybq u.heap.size u)(hu:Below u.heap.size u w)(hN:u.heap.size<=b)(hB:B<=w.heap.size)(hw:AN w B b r)(hr:r.length<=30000000000)(Y:BT S=0):
  A9 prog 37 #[.pointer (some ⟨b,0,none⟩),.agg vs.toArray] w fun e w'=>e=.returned (.int .i64 0)/\AN w' B b (FX r S)/\w.grownBy w' (some b):=by
 have m:=hS.sizes.1;obtain⟨hm,hz,⟨hR,ax⟩,N,ay,Z,f⟩:=Sl Y;have az:=Zv Y r;have a0:=sH Y r;have a1:(HX r S).length<=r.length+400:=by
  have:=(KM.1 hm).2.2.1;rw[QU,B9,IB,QD];unfold gap;omega
 have n:=SL r S;have s:=fun(x:A5) (d:Below u.heap.size u x)=>UA hS ht d;obtain⟨⟨p,q,ca,cb,L,a2,a3,aa,ab⟩,hn,ac⟩:=hS;have g:=fun(x:A5) (d:Below u.heap.size u x) (a:AN x B b r) (c:B<=x.heap.size)=>Y1 x B b r S.hd p ca (.slice q S.rows.length cb) S.zeros (fun y hy=>aa.below (d.grown hy d.size (fun j hj=>by injection hj with hj;omega))) hm a (by omega) c
 have i:=fun(x:A5) (d:Below u.heap.size u x) (a:AN x B b (HX r S)) (c:B<=x.heap.size)=>kX (N:=N) S p q ca cb ab ht d hN c a ax Z f ac (by rw[WN];omega);rw[<-L] at g i;rw[Y] at s;have z7:vs[7]? =some (.int .i64 S.zeros):=by rw[L];rfl
 obtain⟨z,M⟩:∃z:Nat,S.zeros=(z:Int):=⟨S.zeros.toNat,by omega⟩;rw[M] at z7 hz;rw[M,Do] at n;have O:=fun(x:A5) (a:AN x B b (H8 r S)) (c:B<=x.heap.size)=>Sf x B b (H8 r S) a (by omega) c;have ad:GH S.hd.inter S.hd.fmt 0 (HX r S) [] 0 S.rows=H8 r S:=WN r S;rw[ad] at i;have ae:E2 r 0++EF S.hd=HX r S:=rfl;rw[ae] at g
 obtain⟨P,Q⟩:=Ai (H8 r S++List.replicate (gap (H8 r S).length) 48);rw[Q] at O n;have af:P.length<=32000000000:=by rw[<-Q,B9,Bp];unfold gap;omega
 have a4:=fun(x:A5) (j:Nat) (hj:j<=262144) (a:AN x B b (P++List.replicate (8*j) 48)) (c:B<=x.heap.size)=>HC x B b _ 0 8 a (by decide) (by decide) (by rw[B9,Bp];omega) c;have h8:∀j:Nat,P++List.replicate (8*j) 48++AI (0:Int).toNat (8:Int).toNat=P++List.replicate (8*(j+1)) 48:=fun j=>by
  rw[show AI (0:Int).toNat (8:Int).toNat=List.replicate 8 48 from MJ 8,Bf,Lc];rfl
 generalize H8 r S=bk at *;generalize HX r S=bl at *;generalize FX r S=bm at *;obtain⟨D,hD⟩:=Ai w.heap.size;obtain⟨A,hA⟩:=Ai vs.toArray;obtain⟨F,k⟩:=Ai (w.alloc (.cells A 39 (0,0)));have R:Below w.heap.size w F:=by rw[<-k];exact(Dm _ w).alloc (Ba _) _
 have a5:F.heap.size=D+1:=by rw[<-k,<-hD];simp
 have T:F.heap[D]? =some (.cells A 39 (0,0)):=by rw[<-k,<-hD];exact heap_alloc_new w _
 have G:=hw.below R;have bd:b<D:=by rw[<-hD];exact hw.lt
 rw[hA] at m g i s ⊢;have U:=Dl (fun(x:A5) (d:w.grownBy x (some b))=>(⟨hu.grown d hu.size (fun j hj=>by injection hj with hj;omega),Ea hB d.size⟩:Below u.heap.size u x/\B<=x.heap.size));have a6:=Dl (fun(x:A5) (d:F.grownBy x (some b))=>((d.block D (by omega) (fun e=>by injection e with e;omega)).trans T:x.heap[D]? =some (.cells A 39 (0,0))))
 have bf:=Dl (fun(x:A5) (d:F.grownBy x (some b))=>(by
  have h:=(d.block D (by omega) (fun e=>by injection e with e;omega)).trans T;rw[<-hA] at h;exact A2 (o:=7) h z7:x.cell? ⟨D,7,none⟩=some (.int .i64 (z:Int))))
 have ag:=Dl (BR R (some b));have a7:=Dl k;have bg:=Dl hD;have a8:=Dl n;have bh:=Dl h8;have bi:z<=262144:=by omega
 have a9:=a6.out _ (BR (Dm _ _) _);have ah:F.grownBy F (some b):=BR (Dm _ _) _;have ba:=s F (U.out _ ag.out).1;clear L a2 a3 aa ab hn ac z7 n h8 k hD R a5 T hw hu hR ay Z f Y az a0 a1 hm hz M ad ae Q af hA s hr hB ht
 go_enter func37,ntmps37
 go_wp2_with (with_reducible refine N5 rfl 39 _ rfl _ rfl 39 A (0,0) _ (heap_alloc_new w _) Nv rfl m ?_)
 rw[a7.out,bg.out];refine ba.mono ?_;rintro e w2 ⟨rfl,V⟩;have H:=G.below V;have v:=AO ah (BR V (some b));have ai:=a6.out _ v;obtain⟨aj,ak⟩:=U.out _ (AO ag.out v);have c2:=g w2 aj H ak;clear G a9 V H g aj ak ah
 go_wp2_with (with_reducible refine N5 rfl 39 _ rfl D rfl 39 A (0,0) _ ai Nv rfl m ?_)
 refine c2.mono ?_;rintro e w3 ⟨rfl,I,al⟩;have C:=AO v al;have am:=a6.out _ C;obtain⟨an,ao⟩:=U.out _ (AO ag.out C);have c3:=i w3 an I ao;clear ai c2 al v an ao i I
 go_wp2_with (with_reducible refine N5 rfl 39 _ rfl D rfl 39 A (0,0) _ am Nv rfl m ?_)
 refine c3.mono ?_;rintro e w4 ⟨rfl,J,ap⟩;have W:=AO C ap;obtain⟨bb,aq⟩:=U.out _ (AO ag.out W);have c4:=O w4 J aq;clear am c3 ap C bb aq O J
 go_wp2_with fail
 refine c4.mono ?_;rintro e w5 ⟨rfl,K,ar⟩;have X:=AO W ar;have k7:=bf.out _ X;have au:=AO ag.out X;clear c4 ar W X;have l:AN w5 B b (P++List.replicate (8*0) 48):=by rw[Dc];exact(Ew P).symm▸K
 clear K
 go_wp2
 go_loopw [23] (fun t wr=>∃j:Nat,t=.int .i64 (j:Int)/\j<=z/\AN wr B b (P++List.replicate (8*j) 48)/\w.grownBy wr (some b)) (fun t _=>z-(RowKit.intOf t).toNat)
 case atStart=>exact⟨0,rfl,Dn _,l,au⟩
 case round=>
  clear l au k7;obtain⟨j,rfl,hj,E,hg⟩:=hrel;by_cases bj:j<z
  ·have t1:decide ((j:Int)<(z:Int))=true:=by simp;omega
   have c5:=a4 wr j (by omega) E (U.out _ hg).2;rw[bh.out] at c5;clear E
   go_wp2_with fail
   refine c5.mono ?_;rintro e w6 ⟨rfl,av,aw⟩;have bc:=AO hg aw;clear c5 hg aw
   go_wp2
   go_roundw
   case rel=>exact⟨j+1,by go_num,by omega,av,bc⟩
   case measure=>simp[RowKit.intOf];omega
  ·obtain rfl:z=j:=by omega
   have t1:decide ((z:Int)<(z:Int))=false:=by simp
   rw[<-a8.out] at E
   go_wp2
   go_ret
   exact⟨rfl,E,hg⟩
end
theorem jJ {u w x:A5}{S b:ShP}{vs vs':List A0}(r:KC u S vs)(c:KC x b vs')(m:Below u.heap.size u w)(n:Below x.heap.size x w):A9 prog 25 #[.agg vs'.toArray,.agg vs.toArray] w fun e y=>e=.returned (.bool (shB b S))/\Below w.heap.size w y:=by
 obtain⟨⟨p,q,ca,cb,rfl,hl,hn,hs,hr⟩,o,d⟩:=r;obtain⟨⟨s,q',f,g,rfl,h,i,j,k⟩,l,a⟩:=c;exact rP b S s q' p q f g ca cb w h i (j.below n) (hs.below m) (k.below n) (hr.below m) a d
def exSA:Cel:={DP with kind:=3,dc:=fun _=>9}
def exS1:ShP:=⟨⟨0,0,6,false,5,[]⟩,[⟨false,0,0,[exSA,exSA]⟩,⟨false,0,0,[exSA,exSA]⟩],0⟩
theorem T3 (w:A5)(c:Cel)(hm:(Lit.int .i64 c.mx).wf=true/\(Lit.int .i64 c.my).wf=true)(h:∀i,i<6->c.ev i=[]):EZ w c (AF c nilS):=
 ⟨fun _=>none,fun _=>0,aT fun i hi=>by rw[h i hi];rfl,hm,fun i hi=>by rw[h i hi];exact⟨Dn _,.inl rfl⟩⟩
theorem yA {w:A5}{b:Nat}{c d:Cel}(hc:(Lit.int .i64 c.mx).wf=true/\(Lit.int .i64 c.my).wf=true)(hd:(Lit.int .i64 d.mx).wf=true/\(Lit.int .i64 d.my).wf=true)(a:∀i,i<6->c.ev i=[])(e:∀i,i<6->d.ev i=[])
  (h:w.heap[b]? =some (.cells (AF c nilS++AF d nilS).toArray 77 (0,0))):HY w (some ⟨b,0,none⟩) [c,d]:=by
 refine .inr ⟨b,0,rfl,(An.1 h).1,fun i hi=>?_⟩
 match i,hi with
 |0,_=>
  refine⟨AF c nilS,T3 w c hc a,fun j v hj=>?_⟩;have hl:j<18:=(Ga.1 hj).1;rw[Cf,As];exact A2 h (by rw[Hs hl];exact hj)
 |1,_=>
  refine⟨AF d nilS,T3 w d hd e,fun j v hj=>?_⟩;exact A2 h (by rw[G9 (by show 18<=0+1*18+j;omega),show 0+1*18+j-(AF c nilS).length=j by show 0+1*18+j-18=j;omega];exact hj)
theorem Z5 {w:A5}{b a b2:Nat}{l m:List Cel}(h:w.heap[b]? =some (.cells #[.bool false,.int .i64 0,.int .i64 0,.slice (some ⟨a,0,none⟩) 2 2,.bool false,.int .i64 0,.int .i64 0,.slice (some ⟨b2,0,none⟩) 2 2] 46 (0,0)))
  (hl:l.length=2)(hm:m.length=2)(h1:HY w (some ⟨a,0,none⟩) l)(h2:HY w (some ⟨b2,0,none⟩) m):EC w (some ⟨b,0,none⟩) [⟨false,0,0,l⟩,⟨false,0,0,m⟩]:=by
 have c:w.heap[b]? =some (.cells [.bool false,.int .i64 0,.int .i64 0,.slice (some ⟨a,0,none⟩) 2 2,.bool false,.int .i64 0,.int .i64 0,.slice (some ⟨b2,0,none⟩) 2 2].toArray 46 (0,0)):=h;refine .inr ⟨b,0,rfl,(An.1 h).1,fun i hi=>?_⟩
 match i,hi with
 |0,_=>
  refine⟨[.bool false,.int .i64 0,.int .i64 0,.slice (some ⟨a,0,none⟩) 2 2],⟨some ⟨a,0,none⟩,2,(by show _=[Value.bool false,.int .i64 0,.int .i64 0,.slice _ l.length 2];rw[hl]),(fun h=>by cases h),(by show l.length<=_;rw[hl];decide),h1⟩,fun j v hj=>?_⟩
  match j,hj with
  |0,hj|1,hj|2,hj|3,hj=>injection hj with hj;subst hj;exact A2 c rfl
 |1,_=>
  refine⟨[.bool false,.int .i64 0,.int .i64 0,.slice (some ⟨b2,0,none⟩) 2 2],⟨some ⟨b2,0,none⟩,2,(by show _=[Value.bool false,.int .i64 0,.int .i64 0,.slice _ m.length 2];rw[hm]),(fun h=>by cases h),(by show m.length<=_;rw[hm];decide),h2⟩,fun j v hj=>?_⟩
  match j,hj with
  |0,hj|1,hj|2,hj|3,hj=>injection hj with hj;subst hj;exact A2 c rfl
theorem iS {P:Program}{ops:Array Oper}{rest:List Oper}{op:Oper}{a:Act}{w:A5}{Q:Exit->Act->A5->Prop}(c:op.guard=none)(ty:A7)(x y:Operand)(ho:op.op=.store ty x y)
  (Z b:Array A0)(T:A7)(N:Nat)(d:w.heap.size=N)(e:a.eval x=.pointer (some ⟨N,0,none⟩))(f:a.eval y=.agg Z)(hi:(P.info? ty).map (·.size)=some Z.size)(hs:b.size=Z.size)(h1:Z.all (·.oneCell')=true)
  (h:wpList P ops Q rest (a.put op.dst undef) (w.alloc (.cells Z T (0,0)))):wpList P ops Q (op::rest) a (w.alloc (.cells b T (0,0))):=by
 subst d;exact BZ c ty x y ho Z b T e f hi hs h1 h
theorem NG (w:A5)(o:Obj):∃a,w.alloc o=a/\a.heap.size=w.heap.size+1/\a.heap[w.heap.size]? =some o/\Below w.heap.size w a:=
 ⟨_,rfl,by simp,heap_alloc_new w _,(Dm _ w).alloc (Ba _) _⟩
end
end Go.Proofs.YtjjmalchelniiaaGreatDoor
