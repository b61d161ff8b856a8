/- StripsWrites, 47. No condition. -/
import Derived.Test.YtjjmalchelniiaaGreatDoorStripsWritesMa
import Derived.Test.YtjjmalchelniiaaGreatDoorStripsWritesMc
import Derived.Test.YtjjmalchelniiaaGreatDoorStripsWritesMd
import Derived.Test.YtjjmalchelniiaaGreatDoorStripsWritesMi
import Derived.Test.YtjjmalchelniiaaGreatDoorStripsWritesMl
import Derived.Test.YtjjmalchelniiaaGreatDoorStripsWritesMn
import Derived.Test.YtjjmalchelniiaaGreatDoorStripsWritesMo
import Derived.Test.YtjjmalchelniiaaGreatDoorStripsWritesMp
import Derived.Test.YtjjmalchelniiaaGreatDoorStripsWritesMx
import Derived.Test.YtjjmalchelniiaaGreatDoorStripsWritesMbk
import Derived.Test.YtjjmalchelniiaaGreatDoorStripsWritesMbp
import Derived.Test.YtjjmalchelniiaaGreatDoorStripsWritesMbq
import Derived.Test.YtjjmalchelniiaaGreatDoorStripsWritesMbr
import Derived.Test.YtjjmalchelniiaaGreatDoorStripsWritesMbs
import Derived.Test.YtjjmalchelniiaaGreatDoorStripsWritesMbt
open Go.Proofs.Tryz
open Go renaming World->A5,Value->A0,TypeId->A7,Calls->A9
set_option maxHeartbeats 8000000
namespace Go.Proofs.YtjjmalchelniiaaGreatDoor
section
open Go.RowKit
abbrev Ot:=@List.replicate_zero
abbrev Ou:=@List.drop_length
theorem YS {inter:Bool}{k first:Int}:∀(cs:List Cel) (vs:List (Int×Int)),cs.all (BL inter)=true->(GP inter k first vs cs).length<=20000*cs.length
 |[],_,_=>Ba _
 |c::cs,vs,h=>by
  rw[Gs,Al] at h;rw[GP,B9,An];have h1:=RI h.1 (DT vs (B1 k) first).1 (DT vs (B1 k) first).2;have h2:=YS (k:=k) (first:=first) cs (vs++[(c.mx,c.my)]) h.2;omega
theorem kY (i p:Nat)(r:RowP):(EP i p r).length<=36:=by
 unfold EP;cases r.head with
 |true=>
  rw[Bc rfl,Wg];unfold gap;omega
 |false=>exact Ds _
theorem bQ {inter:Bool}{k:Int}{N M:Nat}(a:36+20000*N<=M):∀(rs:List RowP) (i p:Nat) (vs:List (Int×Int)) (first:Int),AT (DZ inter (N:Int)) i rs=true->(FI inter k i p vs first rs).length<=M*rs.length
 |[],_,_,_,_,_=>Ds _
 |r::rs,i,p,vs,first,h=>by
  rw[AT,Al] at h;have hr:=h.1;unfold DZ at hr;rw[Al,Fi,Al] at hr;obtain⟨hc,-,b⟩:=hr;rw[FI];have h1:=kY i p r;have h2:=YS (k:=k) (first:=E3 k i first r) r.cels vs b;have h3:=bQ (k:=k) a rs (i+1) (p+(EP i p r).length+(GP inter k (E3 k i first r) vs r.cels).length) (vs++C5 r.cels) (E3 k i first r) h.2
  rw[B9,B9,An,Nat.mul_succ];have c:r.cels.length=N:=by omega
  rw[c] at h2;omega
theorem R7 {S:ShP}(h:C4 S=0):E5 S.hd=true/\(0<=S.zeros/\S.zeros<=262144)/\((S.rows.length:Int)=BJ S.hd.fmt/\S.rows.length<=18)/\∃N:Nat,BI S.hd.fmt=(N:Int)/\(0<N/\N<=352)/\AT (DZ S.hd.inter (N:Int)) 0 S.rows=true:=by
 obtain⟨h1,-⟩:=Y8 h;unfold EV at h1;simp only[Al,Fi] at h1;obtain⟨hm,b,hn,hr⟩:=h1;have c:=(JX.1 hm).2.1;have d:0<BI S.hd.fmt/\BI S.hd.fmt<=352/\BJ S.hd.fmt<=18:=by
  have a:S.hd.fmt=1\/S.hd.fmt=2\/S.hd.fmt=3\/S.hd.fmt=4\/S.hd.fmt=5\/S.hd.fmt=6:=by omega
  rcases a with a|a|a|a|a|a <;> rw[a] <;> decide +kernel
 refine⟨hm,b,⟨hn,by omega⟩,(BI S.hd.fmt).toNat,by omega,by omega,?_⟩;rw[Ce (by omega)];exact hr
theorem Sy {S:ShP}(h:C4 S=0)(r:List UInt8):(FS r S).length<=r.length+130000000:=by
 obtain⟨hm,-,⟨-,a⟩,N,-,b,hr⟩:=R7 h;have c:=(JX.1 hm).2.2.1;have h1:=bQ (k:=S.hd.fmt) (N:=N) (M:=7040036) (by omega) S.rows 0 (Hf r S).length [] 0 hr;have h2:7040036*S.rows.length<=7040036*18:=Nh _ a;unfold FS L1;generalize FI S.hd.inter S.hd.fmt 0 (Hf r S).length [] 0 S.rows=d at *;rw[B9,RD,B9,GI,Pl];unfold gap;omega
theorem SN {S:ShP}(h:C4 S=0)(r:List UInt8):(DI r S).length<=r.length+134217728:=by
 obtain⟨-,a,-,-⟩:=R7 h;have h1:=Sy h r;rw[PS];simp only[B9,Bl];unfold gap;omega
theorem XE {inter:Bool}{k first:Int}:∀(cs:List Cel) (vs:List (Int×Int)),AL (GP inter k first vs cs)=true
 |[],_=>rfl
 |c::cs,vs=>by rw[GP,CO,zK,XE cs];rfl
theorem XL {inter:Bool}{k:Int}:∀(rs:List RowP) (i p:Nat) (vs:List (Int×Int)) (first:Int),AL (FI inter k i p vs first rs)=true
 |[],_,_,_,_=>rfl
 |r::rs,i,p,vs,first=>by
  rw[FI,CO,CO,XE,XL rs];unfold EP;cases r.head with
  |true=>rw[Bc rfl,cF];rfl
  |false=>rfl
theorem U9 (p:Nat)(S:ShP):AL (CV p S)=true:=by
 unfold CV L1 GX;rw[CO,CO,CO,CO,Ye,mZ,XL,OT,OT];rfl
theorem mH {r:List UInt8}(hr:AL r=true)(S:ShP):AL (DI r S)=true:=by
 unfold DI GX;rw[CO,CO,hr,OT,U9];rfl
end
section
open Go.RowKit Go.Lib
section
variable {w z:A5}{B b:Nat}{r:List UInt8}
theorem OW {g c:Nat}{cs b:Array A0}{T d:A7}(h:w.heap[g]? =some (.cells cs T (0,0)))(a:w.heap[c]? =some (.cells b d (0,0)))(e:T≠d):g≠c:=by
 rintro rfl;rw[h] at a;injection a with a;injection a with _ a;exact e a
theorem H4.typed (a:∀(g:Nat) (cs:Array A0),w.heap[g]? =some (Obj.cells cs 116 (0,0))->z.heap[g]? =some (Obj.cells cs 116 (0,0))):∀{k:Nat} {v:A0},H4 w B r k v->H4 z B r k v
 |0,_,c=>c
 |_+1,_,⟨g,v',e,hg,hh,c⟩=>⟨g,v',e,hg,a g _ hh,c.typed a⟩
theorem AQ.typed (h:AQ w B b r)(a:∀(g:Nat) (cs:Array A0) (T:A7),(T=111\/T=116)->w.heap[g]? =some (Obj.cells cs T (0,0))->z.heap[g]? =some (Obj.cells cs T (0,0))):AQ z B b r:=by
 obtain⟨h1,h2,v,h3,h4⟩:=h;exact⟨h1,h2,v,a _ _ _ (.inl rfl) h3,h4.typed fun g cs c=>a g cs _ (.inr rfl) c⟩
theorem Rq {base e c n j:Nat}{v:A0}{b:List A0}(h:w.ownsRow base e c v n b)(hj:v.ownBlock=some j):∃a,w.heap[j]? =some (.cells a e (0,0)):=by
 rcases h.2 with ⟨rfl,_⟩|⟨g,cap,a,rfl,_,d,_⟩
 ·cases hj
 ·injection hj with hj;exact⟨a,hj▸d⟩
end
structure Yhn (w:A5) (W S V A b B:Nat) (r:List UInt8) (zs:List A0) (k:Int) (vv:A0) (vs:List (Int×Int)):Prop where
 bw:w.heap[W]? =some (.cells [.pointer (some ⟨b,0,none⟩)].toArray 66 (0,0))
 bs:w.heap[S]? =some (.cells zs.toArray 39 (0,0))
 bv:w.heap[V]? =some (.cells [vv].toArray 98 (0,0))
 ba:w.heap[A]? =some (.cells [.int .i64 (B1 k)].toArray 3 (0,0))
 wr:AQ w B b r
 vec:w.ownsRow 0 73 2 vv vs.length (GM vs)
section
variable {w z:A5}{W S V A b B:Nat}{r r':List UInt8}{zs:List A0}{k:Int}{vv vv':A0}{vs:List (Int×Int)}
theorem Yhn.block {g:Nat}{cs:Array A0}{T:A7}{L:List (Option Nat)}(h:w.heap[g]? =some (.cells cs T (0,0)))(a:Yai L w z)(b:some g∉L):z.heap[g]? =some (.cells cs T (0,0)):=
 (a.block g (Am.1 h).1 b).trans h
theorem Yhn.below (h:Yhn w W S V A b B r zs k vv vs)(a:Below w.heap.size w z):Yhn z W S V A b B r zs k vv vs where
 bw:=Yhn.block h.bw (Yai.below (L:=[]) a) (by simp)
 bs:=Yhn.block h.bs (Yai.below (L:=[]) a) (by simp)
 bv:=Yhn.block h.bv (Yai.below (L:=[]) a) (by simp)
 ba:=Yhn.block h.ba (Yai.below (L:=[]) a) (by simp)
 wr:=h.wr.below a
 vec:=Sq h.vec a
theorem AQ.block {w:A5}{B b:Nat}{r:List UInt8}(h:AQ w B b r):∃cs,w.heap[b]? =some (.cells cs 111 (0,0)):=by
 obtain⟨-,-,v,h3,-⟩:=h;exact⟨_,h3⟩
theorem Yhn.wrote (h:Yhn w W S V A b B r zs k vv vs)(i:w.grownBy z (some b))(l:AQ z B b r'):Yhn z W S V A b B r' zs k vv vs:=by
 obtain⟨cs,hc⟩:=h.wr.block;have a:∀{g:Nat} {c:Array A0} {T:A7},T≠111->w.heap[g]? =some (.cells c T (0,0))->z.heap[g]? =some (.cells c T (0,0)):=fun m f=>
  (i.block _ (Am.1 f).1 fun e=>by injection e with e;exact OW f hc m e).trans f
 exact{
  bw:=a (by decide) h.bw
  bs:=a (by decide) h.bs
  bv:=a (by decide) h.bv
  ba:=a (by decide) h.ba
  wr:=l
  vec:=MM h.vec (M:=[some b]) (Yai.one i fun j _ e=>by rw[e];exact Dk.2 rfl) fun j hj hm=>by
   have e:=Dk.1 hm;injection e with e;obtain⟨n,d⟩:=Rq h.vec hj;exact OW d hc (by decide) e}
theorem Yhn.more {v:Int×Int}(h:Yhn w W S V A b B r zs k vv vs)(p:w.grownBy z vv.ownBlock)(ho:z.ownsRow 0 73 2 vv' (vs.length+1) (GM vs++[.int .i64 v.1,.int .i64 v.2])):
  Yhn (z.setCell ⟨V,0,none⟩ vv') W S V A b B r zs k vv' (vs++[v]):=by
 have c:∀{g:Nat} {d:Array A0} {T:A7},T≠73->w.heap[g]? =some (.cells d T (0,0))->z.heap[g]? =some (.cells d T (0,0)):=fun l i=>
  (p.block _ (Am.1 i).1 fun e=>by
   obtain⟨m,f⟩:=Rq h.vec e.symm;exact OW i f l rfl).trans i
 have n:=c (by decide) h.bv;have hs:z.grownBy (z.setCell ⟨V,0,none⟩ vv') (some V):=DM z ⟨V,0,none⟩ vv';have a:∀{g:Nat} {d:Array A0} {T:A7},T≠98->z.heap[g]? =some (.cells d T (0,0))->(z.setCell ⟨V,0,none⟩ vv').heap[g]? =some (.cells d T (0,0)):=fun l i=>
  (hs.block _ (Am.1 i).1 fun e=>by injection e with e;exact OW i n l e).trans i
 exact{
  bw:=a (by decide) (c (by decide) h.bw)
  bs:=a (by decide) (c (by decide) h.bs)
  bv:=BF (o:=0) vv' n
  ba:=a (by decide) (c (by decide) h.ba)
  wr:=h.wr.typed fun g cs T l i=>by
   rcases l with rfl|rfl
   ·exact @a _ _ 111 (by decide) (@c _ _ 111 (by decide) i)
   ·exact @a _ _ 116 (by decide) (@c _ _ 116 (by decide) i)
  vec:=by
   rw[B9,Sm];exact MM ho (M:=[some V]) (Yai.set _ (Dk.2 rfl)) fun j hj hm=>by
    have e:=Dk.1 hm;injection e with e;obtain⟨m,f⟩:=Rq ho hj;exact OW f n (by decide) e}
end
section
variable {u w:A5}{W S V A b B n m ca cb:Nat}{r:List UInt8}{zs:List A0}{k:Int}{vv:A0}{vs:List (Int×Int)}
set_option maxRecDepth 100000 in
theorem Y35 (hd:Shd)(p q:Option Addr)(z:Int)(U:AQ w B b r):
  A9 prog 104 #[.pointer (some ⟨b,0,none⟩),.agg (Bx hd (.slice p n ca) (.slice q m cb) z).toArray] w fun e O=>∃W S V A,e=.returned (.func (.func 138) #[] #[.pointer (some ⟨W,0,none⟩),.pointer (some ⟨S,0,none⟩),.pointer (some ⟨V,0,none⟩),.pointer (some ⟨A,0,none⟩)])/\
   Yhn O W S V A b B r (Bx hd (.slice p n ca) (.slice q m cb) z) hd.fmt (.slice none 0 0) []/\Below w.heap.size w O/\w.heap.size<=W/\w.heap.size<=S/\w.heap.size<=V/\w.heap.size<=A:=by
 have X:∀(P:Fn) (first cap:Array A0) (w:A5),(Instr.makeFunc P first cap).run prog w=.ok (.func P first cap) w:=fun _ _ _ _=>rfl;obtain⟨zs,y⟩:=Ah (Bx hd (.slice p n ca) (.slice q m cb) z);have Y:zs[2]? =some (.int .i64 hd.fmt):=by rw[<-y];rfl
 rw[y];have Z:=fun x=>PQ hd.fmt x;generalize hd.fmt=k at *;obtain⟨R,w1,w2,C,f,g,D,h,i,c,j⟩:=NC w (.cells #[.pointer (some ⟨b,0,none⟩)] 66 (0,0)) (.cells zs.toArray 39 (0,0));have k2:=AA (o:=2) c Y;obtain⟨aa,w3,Q,E,l,s,F,G,t,u,a⟩:=NC w2 (.cells #[.int .i64 (B1 k)] 3 (0,0)) (.cells #[.slice none 0 0] 98 (0,0));obtain rfl:aa=R+2:=by omega
 have d:Below R w Q:=j.trans (a.mono (by omega));have v:Yhn Q R (R+1) (R+3) (R+2) b B r zs k (.slice none 0 0) []:={
  bw:=(a.block R (by omega)).trans i
  bs:=(a.block (R+1) (by omega)).trans c
  bv:=u
  ba:=t
  wr:=U.below (C▸d)
  vec:=Dn ..}
 have H:=Dp f;have I:=Dp g;have J:=Dp l;have K:=Dp s;have T:=Dp C;have L:=Dp h;have M:=Dp v;have N:=Dp d;clear v d i c t u j a f g l s C E D h F G y
 go_enter func104,ntmps104
 go_wp2_with fail
 rw[H.out,I.out,T.out];refine(Z _).mono ?_;rintro e x ⟨rfl,rfl⟩
 go_wp2
 rw[J.out,K.out,L.out]
 go_ret
 rw[T.out];exact⟨R,R+1,R+3,R+2,rfl,M.out,N.out,by omega,by omega,by omega,by omega⟩
set_option maxRecDepth 100000 in
theorem iF {c:Cel}{cs:List A0}{inter:Bool}{first:Int}(h:Yhn w W S V A b B r zs k vv vs)(N:zs[3]? =some (.bool inter))(hu:Below u.heap.size u w)(hN:u.heap.size<=b)(hB:B<=w.heap.size)(ht:Ybw u.heap.size u)
  (hc:F5 u c cs)(O:∀i,i<6->(c.ev i).length<=1048576)(hm:BL inter c=true)(hr:r.length<=60000000000)(hn:vs.length<=1048575)(hk:B1 k<=1000):
  A9 prog 138 #[.agg cs.toArray,.int .i64 first,.pointer (some ⟨W,0,none⟩),.pointer (some ⟨S,0,none⟩),.pointer (some ⟨V,0,none⟩),.pointer (some ⟨A,0,none⟩)] w fun e P=>e=.returned (.tuple #[])/\
   ∃vv',Yhn P W S V A b B (r++CQ inter (DT vs (B1 k) first).1 (DT vs (B1 k) first).2 c) zs k vv' (vs++[(c.mx,c.my)])/\Yai [some b,some V,vv.ownBlock] w P/\∀j,vv'.ownBlock=some j->vv.ownBlock=some j\/w.heap.size<=j:=by
 obtain⟨Q,d,ah,R⟩:=Tg rfl h.vec;subst ah;obtain⟨p,cap,f,ai,he⟩:=hc;have T:GZ u c p fun i=>(c.ev i).length:=fun i hi=>⟨rfl,O i hi,(he i hi).2⟩;obtain⟨Z,U⟩:=Ah cs.toArray;have aj:(prog.info? 77).map (·.size)=some Z.size:=by rw[<-U,f];exact Ql ..
 obtain⟨C,I⟩:=Ah w.heap.size;obtain⟨w0,g⟩:=Ah (w.alloc (.cells Z 77 (0,0)));have l:Below w.heap.size w w0:=by rw[<-g];exact(Dq _ w).alloc (Ba _) _
 have ak:w0.heap[C]? =some (.cells Z 77 (0,0)):=by rw[<-g,<-I];exact heap_alloc_new w _
 have a0:w0.heap.size=C+1:=by rw[<-g,<-I];simp
 have D:=h.below l;have X:=R.mono l;have m:Below u.heap.size u w0:=hu.trans (l.mono hu.size);have a1:b<C:=by rw[<-I];exact h.wr.lt
 have a2:V<C:=by rw[<-I];exact(Am.1 h.bv).1
 obtain⟨⟨J,K⟩,E⟩:=Ah (DT vs (B1 k) first)
 have a3:=Dp (fun(x:A5) (a:Below w0.heap.size w0 x)=>(W5 (fun i=>vs.getD i (0,0)) Q vs.length d (B1 k) first x (X.mono a) (by unfold maxLen;omega) (by omega)).mono fun e y (z:KV _ x e y)=>
  (⟨by rw[z.1,show KU (fun i=>vs.getD i (0,0)) vs.length (B1 k) first=(J,K) from E];rfl,a.trans (z.2.mono a.size)⟩:e=.returned (.agg #[.int .i64 J,.int .i64 K])/\Below w0.heap.size w0 y))
 have Y:∀x,Below w0.heap.size w0 x->∀z,x.grownBy z (some b)->Below u.heap.size u z:=fun x a z hz=>(m.trans (a.mono m.size)).grown hz (m.trans (a.mono m.size)).size (fun j hj=>by injection hj with hj;omega);have av:=Dp (fun(x:A5) (a:Below w0.heap.size w0 x)=>(by
  have h1:=xF inter J K c p (fun i=>(c.ev i).length) cap B b r x (D.below a).wr (by omega) (by have:=a.size;omega) (fun z hz=>by
   have hk:=Y x a z hz;have h:=ht.below hk;exact⟨Ybw.here h.pats h.mvd h.steps h.tcoef,T.below hk⟩) hm
  rw[<-f,U] at h1;exact h1:A9 prog 139 #[.pointer (some ⟨b,0,none⟩),.bool inter,.agg #[.int .i64 J,.int .i64 K],.agg Z] x fun e P=>e=.returned (.int .i64 0)/\AQ P B b (r++CQ inter J K c)/\x.grownBy P (some b)))
 have a4:=Dp (fun(x:A5) (a:Below w0.heap.size w0 x)=>AA (o:=0) (D.below a).bw rfl);have a5:=Dp (fun(x:A5) (a:Below w0.heap.size w0 x)=>AA (o:=3) (D.below a).bs N);have a6:=Dp (fun(x:A5) (a:Below w0.heap.size w0 x)=>AA (o:=0) (D.below a).bv rfl);have a7:=Dp (fun(x:A5) (a:Below w0.heap.size w0 x)=>AA (o:=0) (D.below a).ba rfl)
 have aw:=Dp (fun(x:A5) (a:Below w0.heap.size w0 x)=>((a.block C (by omega)).trans ak:x.heap[C]? =some (.cells Z 77 (0,0))));have a8:=Dp D;have al:=Dp g;have ax:=Dp I;have aa:=Dp l;have v4:cs[4]? =some (.int .i64 c.mx):=by rw[f];rfl
 have v5:cs[5]? =some (.int .i64 c.my):=by rw[f];rfl
 have a9:=Dp U;have ba:=Dp v4;have bb:=Dp v5;have am:=(Dq w0.heap.size w0).drew;obtain⟨bh,ab⟩:=Ah (CQ inter J K c);rw[E,ab,U];rw[ab] at av;clear h N hu O hm hr ai he T f U I g l R X m E Y D v4 v5 hk ht hN hB
 go_enter func138,ntmps138
 go_upto_region 1 with fail
 rw[al.out,ax.out];refine BY (S:=fun x=>Below w0.heap.size w0 x) 8 (by kernel_rfl) (by kernel_rfl) am ?_;simp only[Dt,Bi,Hb,I0];refine AN 66 _ ⟨W,0,none⟩ (.pointer (some ⟨b,0,none⟩)) (by kernel_rfl) rfl rfl (fun x a=>by have c0:=a4.out x a;go_simp) ?_;simp only[A1];refine AG ?_;simp only[A1]
 refine AN 4 _ ⟨S,3,none⟩ (.bool inter) (by kernel_rfl) rfl rfl (fun x a=>by have c0:=a5.out x a;go_simp) ?_;simp only[A1];refine AN 98 _ ⟨V,0,none⟩ (.slice Q vs.length d) (by kernel_rfl) rfl rfl (fun x a=>by have c0:=a6.out x a;go_simp) ?_;simp only[A1];refine AN 3 _ ⟨A,0,none⟩ (.int .i64 (B1 k)) (by kernel_rfl) rfl rfl (fun x a=>by have c0:=a7.out x a;go_simp) ?_;simp only[A1]
 refine AG ?_;simp only[A1];refine AS (by kernel_rfl) a3.out (fun _=>by kernel_rfl) ?_;simp only[A1];refine IZ 77 _ C 77 Z (0,0) _ (by kernel_rfl) rfl rfl (fun x a=>aw.out x a) N0 rfl aj ?_;simp only[A1];refine BV fun x a=>?_
 go_wp2_with fail
 refine(av.out _ a).mono ?_;rintro e s ⟨rfl,ac,n⟩;have h2:=(a8.out.below a).wrote n ac;have t:=(n.block C (by have:=a.size;omega) (fun e=>by injection e with e;omega)).trans (aw.out _ a);have an:s.rangeAt C 4 [.int .i64 c.mx,.int .i64 c.my]:=fun j v hj=>by
  rw[<-a9.out] at t
  match j,hj with
  |0,hj=>injection hj with hj;subst hj;exact AA t ba.out
  |1,hj=>injection hj with hj;subst hj;exact AA t bb.out
 have kv:=AA (o:=0) h2.bv rfl;obtain⟨ti,j0,j1,j2,j3⟩:=UJ;have ao:=h2.vec;obtain⟨wP,q⟩:=Ah (s.alloc (.cells #[.int .i64 c.mx,.int .i64 c.my] 73 (0,0)));have F:Below s.heap.size s wP:=by rw[<-q];exact(Dq _ s).alloc (Ba _) _
 have hP:=h2.below F;have ad:=hP.vec;have c0:wP.cell? ⟨s.heap.size,0,none⟩=some (.int .i64 c.mx):=by rw[<-q];exact AA (cs:=[.int .i64 c.mx,.int .i64 c.my]) (heap_alloc_new s _) rfl
 have c1:wP.cell? ⟨s.heap.size,1,none⟩=some (.int .i64 c.my):=by rw[<-q];exact AA (cs:=[.int .i64 c.mx,.int .i64 c.my]) (heap_alloc_new s _) rfl
 have ay:C+1<=s.heap.size:=by have:=a.size;have:=n.size;omega
 have bc:=Dp h2;have ap:=Dp n;have bd:=Dp a;have ag:=Dp hP;have ae:=Dp F;have aq:=Dp q;clear q h2 n a hP F ao t ac
 go_wp2_with (first|(with_reducible refine aH rfl _ rfl C 4 rfl c.mx c.my an ?_)|(at_builtin;rw[aq.out];refine cI (v:=.slice Q vs.length d) (y0:=c.mx) (y1:=c.my) rfl rfl underlying98 j0 j1 rfl j2 j3 rfl ad rfl ?c1 ?c2 ?c3 ?_;(case c1=>exact c0);(case c2=>exact c1);(case c3=>omega);intro q8 az w8 ar G au;have H:=(G.block V (Am.1 ag.out.bv).1 (fun e=>by obtain⟨bf,af⟩:=Rq ad e.symm;exact OW ag.out.bv af (by decide) rfl)).trans ag.out.bv;have bg:=AA (o:=0) H rfl;have f8:w8.frozen? ⟨V,0,none⟩=false:=AZ H;clear H))
 go_end0
 refine⟨rfl,_,ag.out.more (v:=(c.mx,c.my)) G ar,?_,?_⟩
 ·have g1:Yai [some b,some V,(Value.slice Q vs.length d).ownBlock] w x:=Yai.below (aa.out.trans (bd.out.mono aa.out.size));have g2:=g1.trans (M:=[some b]) (Yai.one ap.out fun j _ e=>by rw[e];exact Dk.2 rfl) fun j _ hm=>by rw[Dk.1 hm];exact Fa ..
  have g3:=g2.trans (Yai.below (L:=[]) ae.out) (by simp);have g4:=g3.trans (M:=[(Value.slice Q vs.length d).ownBlock]) (Yai.one G fun j _ e=>by rw[e];exact Dk.2 rfl) fun j _ hm=>by rw[Dk.1 hm];exact Ez _ (Ez _ (Fa ..))
  exact g4.trans (M:=[some V]) (Yai.set _ (Dk.2 rfl)) fun j _ hm=>by rw[Dk.1 hm];exact Ez _ (Fa ..)
 ·intro j hj;rcases au j hj with h|h
  ·exact .inl h
  ·exact .inr (by have:=ae.out.size;have:=ax.out;omega)
end
theorem Vp {i:Nat}(k:Int)(hi:i<=1000):IntKind.i64.wrap ((i:Int)*BP k)=(i:Int)*BP k:=by
 obtain⟨c,d,a,b,e⟩:=O1 k;have h1:0<=(i:Int)*BP k:=Iz (by omega) a;have h2:(i:Int)*BP k<=1000*100:=Int.mul_le_mul (by omega) b a (by omega);exact CL (by omega)
theorem XR {inter:Bool}{N:Nat}{rs:List RowP}(h:AT (DZ inter (N:Int)) 0 rs=true){i:Nat}(hi:i<rs.length):
  rs[i].cels.length=N/\(∀c∈rs[i].cels,BL inter c=true)/\(rs[i].head=true->i≠0/\∃a q:Nat,rs[i].id=(a:Int)/\rs[i].quant=(q:Int)/\a<=3/\1<=q/\q<=31):=by
 have h1:=Pn.1 h i hi;rw[Ar] at h1;unfold DZ at h1;rw[Al,Fi,Al] at h1;obtain⟨hc,b,d⟩:=h1;refine⟨by omega,Bu.1 d,fun hd=>?_⟩;rw[hd,Bc rfl,Fi] at b;exact⟨b.1,rs[i].id.toNat,rs[i].quant.toNat,by omega,by omega,by omega,by omega,by omega⟩
theorem XG {inter:Bool}{k:Int}{rs:List RowP}(i:Nat)(R:List UInt8)(vs:List (Int×Int))(first:Int)(hi:i<rs.length):
  ES inter k i R vs first (rs.drop i)=ES inter k (i+1) (G2 inter k (E3 k i first rs[i]) (R++EP i R.length rs[i]) vs rs[i].cels) (vs++C5 rs[i].cels) (E3 k i first rs[i]) (rs.drop (i+1)):=by
 rw[Fo hi];exact Y39 ..
set_option maxRecDepth 100000 in
theorem qH {u w:A5}{B b:Nat}{r:List UInt8}{N:Nat}(S:ShP)(p q:Option Addr)(ca cb:Nat)(hS:H0 u q S.rows)(ht:Ybw u.heap.size u)(hu:Below u.heap.size u w)(hN:u.heap.size<=b)(hB:B<=w.heap.size)(hw:AQ w B b r)
  (cg:S.rows.length<=18)(d0:0<N/\N<=352)(hm:AT (DZ S.hd.inter (N:Int)) 0 S.rows=true)(ba:∀c∈C2 S,∀k,k<6->(c.ev k).length<=1048576)(l:(ES S.hd.inter S.hd.fmt 0 r [] 0 S.rows).length<=60000000000):
  A9 prog 72 #[.pointer (some ⟨b,0,none⟩),.agg (Bx S.hd (.slice p S.hd.supp.length ca) (.slice q S.rows.length cb) S.zeros).toArray] w fun e w'=>e=.returned (.tuple #[])/\AQ w' B b (ES S.hd.inter S.hd.fmt 0 r [] 0 S.rows)/\w.grownBy w' (some b):=by
 have cf:=fun x=>QI S.hd.fmt x;have ch:B1 S.hd.fmt<=1000:=by have:=(HH S.hd.fmt).1;have:=(O1 S.hd.fmt).2.2.2.2;omega
 have wm:=fun(i:Nat) (hi:i<=1000)=>Vp S.hd.fmt hi;have rm:=fun(i:Nat) (hi:i<S.rows.length)=>XR hm hi;have bb:=fun(i:Nat) (hi:i<S.rows.length) c (hc:c∈S.rows[i].cels)=>ba c (Ob.2 ⟨_,Bn hi,hc⟩);have bc:=fun(i:Nat) (R:List UInt8) (vs:List (Int×Int)) (first:Int) (hi:i<S.rows.length)=>XG (inter:=S.hd.inter) (k:=S.hd.fmt) i R vs first hi
 have ak:=fun(R:List UInt8) (vs:List (Int×Int)) (first:Int)=>(show ES S.hd.inter S.hd.fmt S.rows.length R vs first (S.rows.drop S.rows.length)=R by rw[Ou];exact YN ..);obtain⟨T,hT⟩:=Ah (ES S.hd.inter S.hd.fmt 0 r [] 0 S.rows);rw[hT] at l ⊢;have bd:ES S.hd.inter S.hd.fmt 0 r [] 0 (S.rows.drop 0)=T:=hT
 have bf:∀(i:Nat) (R:List UInt8) (vs:List (Int×Int)) (first:Int) (rs:List RowP),ES S.hd.inter S.hd.fmt i R vs first rs=T->R.length<=60000000000:=fun i R vs first rs h=>by
  rw[<-h] at l;unfold ES at l;rw[B9] at l;omega
 have pc:=fun(x:A5) (R:List UInt8) (E:AQ x B b R)=>Y35 (w:=x) (n:=S.hd.supp.length) (m:=S.rows.length) (ca:=ca) (cb:=cb) S.hd p q S.zeros E;obtain⟨zs,hZ⟩:=Ah (Bx S.hd (.slice p S.hd.supp.length ca) (.slice q S.rows.length cb) S.zeros);have z2:zs[2]? =some (.int .i64 S.hd.fmt):=by rw[<-hZ];rfl
 have z3:zs[3]? =some (.bool S.hd.inter):=by rw[<-hZ];rfl
 have z6:zs[6]? =some (.slice q S.rows.length cb):=by rw[<-hZ];rfl
 have bg:(prog.info? 39).map (·.size)=some zs.toArray.size:=by rw[show zs.toArray.size=8 by rw[<-hZ];rfl];kernel_rfl
 rw[hZ] at pc ⊢;obtain⟨D,hD⟩:=Ah w.heap.size;obtain⟨w1,F⟩:=Ah (w.alloc (.cells zs.toArray 39 (0,0)));have ac:Below w.heap.size w w1:=by rw[<-F];exact(Dq _ w).alloc (Ba _) _
 have ci:w1.heap.size=D+1:=by rw[<-F,<-hD];simp
 have av:w1.heap[D]? =some (.cells zs.toArray 39 (0,0)):=by rw[<-F,<-hD];exact heap_alloc_new w _
 have al:=hw.below ac;have d1:b<D:=by rw[<-hD];exact hw.lt
 obtain⟨ds,bh,d2⟩:=UC;obtain⟨dt,cj,d3⟩:=Pr;have d4:u.heap.size<=D:=by rw[<-hD];exact hu.size
 have U:=Dp (fun(x:A5) (E:Yai [some b] w x)=>((hu.trans (E.under (N:=u.heap.size) (by omega) fun k d=>by have e:=Dk.1 d;injection e with e;omega)):Below u.heap.size u x));generalize d5:S.hd.fmt=k at *;generalize d6:S.hd.inter=inter at *;obtain⟨n,aw⟩:=Ah S.rows.length;rw[aw] at cg;have k2:=AA (o:=2) av z2
 have k6:∀x,Below w1.heap.size w1 x->x.cell? ⟨D,6,none⟩=some (.slice q n cb):=fun x E=>by rw[<-aw];exact AA ((E.block D (by omega)).trans av) z6
 have ck:=Dp F;have cc:=Dp hD;have cl:=Dp aw;have cm:=Dp hS;have cn:=Dp bd;have ei:=Dp k6;have bi:=Dp bf;have d7:=Dp bc;have bj:=Dp ak;have d8:=Dp rm;have co:=Dp bb;have d9:=Dp wm;have cp:=Dp ht;have du:=Dp hB;have ea:=Dp z3;have eb:=Dp ac;have am:Yai [some b] w w1:=Yai.below ac
 clear hZ F hD hS bd bf bc ak rm bb wm ht hB z2 z3 z6 hu hm ba l hT ac hw
 go_enter func72,ntmps72
 go_wp2_with (with_reducible refine N5 rfl 39 _ rfl _ rfl 39 zs.toArray (0,0) _ (heap_alloc_new w _) Oa rfl bg ?_)
 rw[ck.out,cc.out];refine(pc _ _ al).mono ?_;rintro e w2 ⟨W,cd,V,A,rfl,bk,G,l1,l2,l3,l4⟩;have cq:=(G3 (a:=⟨D,2,none⟩) (G.block D (by omega))).trans k2;have cr:=k6 _ G;have bl:Yai [some b] w w2:=am.trans (Yai.below (L:=[]) G) (by simp);have ct:D<w2.heap.size:=by have:=G.size;omega
 have ej:=Dp (fun(x:A5) (E:Yai [some b] w2 x)=>((E.block D ct (fun hm=>by have e:=Dk.1 hm;injection e with e;omega)):x.heap[D]? =w2.heap[D]?));have ec:Hid (D<=W/\D<=cd/\D<=V/\D<=A):=Dp (by omega);clear k2 k6 av pc al am G l1 l2 l3 l4 ci
 go_wp2_with fail
 refine(cf _).mono ?_;rintro e x ⟨rfl,rfl⟩
 go_wp2
 go_loopw [7,24] (fun f t wr=>∃(i:Nat) (first:Int) (vv:A0) (vs:List (Int×Int)) (R:List UInt8),f=.int .i64 first/\t=.int .i64 (i:Int)/\i<=n/\Yhn wr W cd V A b B R zs k vv vs/\Hid (ES inter k i R vs first (S.rows.drop i)=T)/\Yai [some b] w wr/\(∀j,vv.ownBlock=some j->D<=j)/\Hid (vs.length<=1000*i)) (fun _ t _=>n-(RowKit.intOf t).toNat)
 case atStart=>exact⟨0,0,_,[],r,rfl,rfl,Ds _,bk,cn,bl,(fun j hj=>by cases hj),Dp (Ds _)⟩
 case round=>
  clear bk bl cq cr;obtain⟨i,first,vv,vs,R,rfl,rfl,hi,hp,hT,hg,s,bm⟩:=hrel;by_cases cu:i<n
  ·have t1:decide ((i:Int)<(n:Int))=true:=by simp;omega
   have ad:i<S.rows.length:=by rw[cl.out];exact cu
   obtain⟨b1,o1,bn,dv,bo⟩:=MU cm.out (by rw[cl.out];omega);obtain⟨rq,cap,hq,cv,H,ax⟩:=bo i ad;have ae:=d7.out i R vs first ad
   rw[hT.out] at ae;obtain⟨cw,ay,ce⟩:=d8.out i ad;have cx:=co.out i ad;have cy:=d9.out i (by omega);obtain⟨row,an⟩:=Ah (S.rows[i]);rw[an] at cv H ax ae cw ay ce cx;subst bn;obtain⟨rs,I⟩:=Ah ([Value.bool row.head,.int .i64 row.id,.int .i64 row.quant,.slice rq row.cels.length cap]);have rl:rs.length=4:=by rw[<-I];rfl
   have ro:rs.toArray.all (·.oneCell')=true:=by rw[<-I];simp[Value.oneCell']
   have az:wr.rangeAt b1 (o1+i*4) rs:=fun k v d=>by
    obtain⟨a0,a1,a2,a3⟩:=ax wr (U.out _ hg);rw[<-I] at d
    match k,d with
    |0,d=>injection d with d;subst d;exact a0
    |1,d=>injection d with d;subst d;exact a1
    |2,d=>injection d with d;subst d;exact a2
    |3,d=>injection d with d;subst d;exact a3
   have cz:(prog.info? 46).map (·.size)=some rs.toArray.size:=by rw[show rs.toArray.size=4 from rl];kernel_rfl
   have c0:ds.size=rs.toArray.size:=by rw[bh];exact rl.symm
   obtain⟨K,hK⟩:=Ah wr.heap.size;obtain⟨wB,J⟩:=Ah (wr.alloc (.cells rs.toArray 46 (0,0)));have bp:Below wr.heap.size wr wB:=by rw[<-J];exact(Dq _ wr).alloc (Ba _) _
   have bq:wB.heap[K]? =some (.cells rs.toArray 46 (0,0)):=by rw[<-J,<-hK];exact heap_alloc_new wr _
   have ed:wB.heap.size=K+1:=by rw[<-J,<-hK];simp
   have dw:=Dp (fun(x:A5) (E:wB.grownBy x (some b))=>(by
    have h:=(E.block K (by omega) (fun e=>by injection e with e;have:=hp.wr.lt;omega)).trans bq;rw[<-I] at h;exact⟨AA (o:=0) h rfl,AA (o:=1) h rfl,AA (o:=2) h rfl,AA (o:=3) h rfl⟩:x.cell? ⟨K,0,none⟩=some (.bool row.head)/\x.cell? ⟨K,1,none⟩=some (.int .i64 row.id)/\x.cell? ⟨K,2,none⟩=some (.int .i64 row.quant)/\x.cell? ⟨K,3,none⟩=some (.slice rq row.cels.length cap)))
   have af:=hp.below bp;have a4:Yai [some b] w wB:=hg.trans (Yai.below (L:=[]) bp) (by simp);have c1:=Dp J;have c2:=Dp hK;have br:=Dp H;have c3:=Dp ae;have y:=Dp cw;have bs:=Dp ay;have c4:=Dp cx;have c5:=Dp (bi.out i R vs first _ hT.out);have ee:D<=K:=by rw[<-hK,<-cc.out];exact hg.size
   have g:wB.grownBy wB (some b):=BZ (Dq _ _) _;obtain⟨q0,q1,q2,q3⟩:=dw.out _ g;clear J hK I bq H ax bo ae cw ay cx an hT hp hg
   go_upto_if 30 with (first|(with_reducible refine Xp rfl _ rfl b1 (o1+i*4) rfl rs az rl ?_)|(with_reducible refine DA rfl 46 _ _ rfl rs.toArray ds 46 rfl rfl cz c0 ro ?_;rw[c1.out,c2.out]))
   go_cut [7] (fun f wx=>∃a9,f=.int .i64 (E3 k i first row)/\Yhn wx W cd V A b B a9 zs k vv vs/\Hid (a9=R++EP i R.length row)/\wB.grownBy wx (some b))
   case first=>
    cases hd:row.head with
    |false=>
     try rw[hd]
     go_wp2
     go_meet
     case rel=>exact⟨R,by unfold E3;rw[hd];rfl,af,Dp (by unfold EP;rw[hd];exact(Fb R).symm),g⟩
    |true=>
     obtain⟨c6,ia,iq,ha,a5,ef,bn,dx⟩:=ce hd;have c7:=fun(x:A5) (E:AQ x B b R) (hz:B<=x.heap.size)=>lN x B b R i ia iq (by omega) E (by have:=c5.out;omega) hz;have c8:B<=wB.heap.size:=by have:=a4.size;have:=du.out;omega
     rw[ha] at q1;rw[a5] at q2;have bt:=Dp hd;have c9:=Dp ha;have da:=Dp a5
     try rw[hd]
     clear hd ha a5 c6 ce
     go_wp2_with fail
     refine(c7 _ af.wr c8).mono ?_;rintro e w5 ⟨rfl,db,z⟩;have ag:=af.wrote z db
     go_wp2
     go_meet
     case rel=>exact⟨_,by unfold E3;rw[bt.out];rfl,ag,Dp (by rw[eX];unfold EP;rw[bt.out,Bc rfl,c9.out,da.out,Dr,Dr]),z⟩
   case rest=>
    obtain⟨a9,rfl,ag,bu,z⟩:=hcut;obtain⟨wk,rfl⟩:∃x,x=wc:=⟨_,rfl⟩;obtain⟨-,-,-,q3⟩:=dw.out _ z;obtain⟨f,hf⟩:=Ah (E3 k i first row)
    have O:=c3.out;rw[<-bu.out,hf] at O;rw[hf];have bv:Yai [some b] w wk:=a4.trans (M:=[some b]) (Yai.one z fun j _ e=>by rw[e];exact Dk.2 rfl) fun j _ h=>h;rw[y.out] at q3;have dy:row.cels.length=N:=y.out;obtain⟨bw,a6⟩:=Ah (G2 inter k f a9 vs row.cels);rw[a6] at O;have ao:Hid (G2 inter k f a9 vs (row.cels.drop 0)=bw):=Dp a6
    have dc:=Dp O;have dd:Hid (bw.length<=60000000000):=Dp (bi.out _ _ _ _ _ O.symm);clear af a4 g a6 O bu hf q0 q1 q2 ce cy z
    go_wp2
    go_loopw [44] (fun t wr=>∃(j:Nat) (ah:A0) (vz:List (Int×Int)) (ap:List UInt8),t=.int .i64 (j:Int)/\j<=N/\Yhn wr W cd V A b B ap zs k ah vz/\Hid (G2 inter k f ap vz (row.cels.drop j)=bw)/\Yai [some b] w wr/\(∀j,ah.ownBlock=some j->D<=j)/\Hid (vz=vs++C5 (row.cels.take j))) (fun t _=>N-(RowKit.intOf t).toNat)
    case atStart=>exact⟨0,vv,vs,a9,rfl,Ds _,ag,ao,bv,s,Dp (by simp[C5])⟩
    case round=>
     clear ag ao bv s q3;obtain⟨j,ah,vz,ap,rfl,hj,hp,P,hg,s,Q⟩:=hrel;by_cases de:j<N
     ·have t2:decide ((j:Int)<(N:Int))=true:=by simp;omega
      have ai:j<row.cels.length:=by rw[y.out];exact de
      obtain⟨b2,o2,df,dz,bx⟩:=CD.each br.out (by omega);obtain⟨cs,hV,bz⟩:=bx j ai;have X:=hV.shape.1;have b0:=QP hV;have az:wr.rangeAt b2 (o2+j*18) cs:=fun k v d=>bz wr (U.out _ hg) k v d;obtain⟨c,Y⟩:=Ah (row.cels[j]);have Z:c∈row.cels:=Y▸Bn ai
      have a7:G2 inter k f ap vz (c::row.cels.drop (j+1))=bw:=by rw[<-Y,<-Fo ai];exact P.out
      rw[bO] at a7;have aq:vz++[(c.mx,c.my)]=vs++C5 (row.cels.take (j+1)):=by
       rw[Q.out,Be ai,Y];unfold C5;rw[Cl,Bd];rfl
      rw[Y] at hV;have ar:vz.length<=1048575:=by
       have h1:=bm.out;rw[Q.out];unfold C5;rw[B9,G9,Bf];omega
      have au:ap.length<=60000000000:=by
       have h1:=dd.out;have h2:=C6 List.length P.out;unfold G2 at h2;rw[B9] at h2;omega
      obtain⟨C,hC⟩:=Ah wr.heap.size;obtain⟨wC,aj⟩:=Ah (wr.alloc (.cells cs.toArray 77 (0,0)));have dg:wC.heap[C]? =some (.cells cs.toArray 77 (0,0)):=by rw[<-aj,<-hC];exact heap_alloc_new wr _
      have a8:Below wr.heap.size wr wC:=by rw[<-aj];exact(Dq _ wr).alloc (Ba _) _
      have b3:=hp.below a8;have aa:Yai [some b] w wC:=hg.trans (Yai.below (L:=[]) a8) (by simp);have p1:=iF (first:=f) b3 ea.out (U.out _ aa) (by omega) (by have:=aa.size;have:=du.out;omega) cp.out hV (c4.out c Z) (bs.out c Z) au ar ch;have b4:(prog.info? 77).map (·.size)=some cs.toArray.size:=by rw[show cs.toArray.size=18 from X];kernel_rfl
      have dh:dt.size=cs.toArray.size:=by rw[cj];exact X.symm
      have di:=Dp aj;have dj:=Dp hC;have dk:=Dp a7;have b5:=Dp aq;have eg:D<=wC.heap.size:=by have:=aa.size;have:=cc.out;omega
      have eh:=b3;have dl:=Dp aa;subst df;clear aj hC hV bz bx P a7 Q aq hp hg a8 aa Y Z ar au
      go_wp2_with (first|(with_reducible refine TT rfl _ rfl b2 (o2+j*18) rfl cs az X ?_)|(with_reducible refine DA rfl 77 _ _ rfl cs.toArray dt 77 rfl rfl b4 dh b0 ?_;rw[di.out,dj.out])|(with_reducible refine N5 rfl 77 _ rfl C rfl 77 cs.toArray (0,0) _ dg N0 rfl b4 ?_))
      refine p1.mono ?_;rintro e w6 ⟨rfl,dm,dn,dp,dq⟩
      go_wp2
      go_roundw
      case rel=>
       refine⟨j+1,dm,_,_,by go_num,by omega,dn,dk,dl.out.trans dp fun t ht hm=>?_,fun t ht=>?_,b5⟩
       ·have h:=cc.out;have hl:=ec.out;rcases Ei.1 hm with e|hm
        ·rw[e];exact Dk.2 rfl
        ·rcases Ei.1 hm with e|hm
         ·injection e with e;omega
         ·have e:=Dk.1 hm;have:=s t e.symm;omega
       ·rcases dq t ht with h|h
        ·exact s t h
        ·omega
      case measure=>simp[RowKit.intOf];omega
     ·obtain rfl:N=j:=by omega
      have t2:decide ((N:Int)<(N:Int))=false:=by simp
      have b6:row.cels.drop N=[]:=by rw[<-y.out,Ou]
      have b7:row.cels.take N=row.cels:=by rw[<-y.out,J1]
      have b8:ap=bw:=by
       have h1:=P.out;rw[b6,Xx] at h1;exact h1
      have ab:vz=vs++C5 row.cels:=by rw[Q.out,b7]
      have dr:Hid (ES inter k (i+1) ap vz f (S.rows.drop (i+1))=T):=Dp (by rw[b8,ab];exact dc.out.symm);have b9:Hid (vz.length<=1000*(i+1)):=Dp (by
       have h1:=bm.out;rw[ab];unfold C5;rw[B9,G9,y.out];omega)
      clear b6 b7 b8 ab Q P
      go_wp2
      go_roundw
      case rel=>exact⟨i+1,f,ah,vz,ap,rfl,by go_num,by omega,hp,dr,hg,s,b9⟩
      case measure=>simp[RowKit.intOf];omega
  ·obtain rfl:n=i:=by omega
   have t1:decide ((n:Int)<(n:Int))=false:=by simp
   have hR:R=T:=by
    have h1:=hT.out;rw[<-cl.out,bj.out] at h1;exact h1
   subst hR
   go_wp2
   go_end0
   exact⟨rfl,hp.wr,hg.lone fun j _ hm=>by have e:=Dk.1 hm;injection e⟩
def OG (u:A5)(S:ShP)(vs:List A0):Prop:=ShV u S vs/\S.rows.length<=4611686018427387904/\∀c∈C2 S,∀k,k<6->(c.ev k).length<=1048576
theorem OG.sizes {u:A5}{S:ShP}{vs:List A0}(h:OG u S vs):(prog.info? 39).map (·.size)=some vs.toArray.size/\vs.toArray.size=8/\vs.toArray.all (·.oneCell')=true:=by
 obtain⟨p,q,ca,cb,rfl,-⟩:=h.1;exact⟨by rw[show (Bx S.hd (.slice p S.hd.supp.length ca) (.slice q S.rows.length cb) S.zeros).toArray.size=8 from rfl];kernel_rfl,rfl,RA ..⟩
section
variable {u w:A5}{B b:Nat}{r:List UInt8}{S:ShP}{vs:List A0}
theorem Xu (i:OG u S vs)(ht:Ybw u.heap.size u)(a:Below u.heap.size u w):A9 prog 20 #[.agg vs.toArray] w fun e j=>e=.returned (.int .i64 (C4 S))/\Below w.heap.size w j:=by
 obtain⟨⟨p,q,ca,cb,rfl,b,l,d,f⟩,hn,g⟩:=i;refine Y03 S p q ca cb w b hn (d.below a) (f.below a) g fun c p n k x m hc=>?_;have h:=ht.below (a.trans (m.mono a.size));exact WC S.hd.inter c p n k x hc h.tcoef h.steps
set_option maxRecDepth 100000 in
theorem kR (hS:OG u S vs)(ht:Ybw u.heap.size u)(hu:Below u.heap.size u w)(hN:u.heap.size<=b)(hB:B<=w.heap.size)(hw:AQ w B b r)(hr:r.length<=30000000000)(Y:C4 S=0):
  A9 prog 37 #[.pointer (some ⟨b,0,none⟩),.agg vs.toArray] w fun e w'=>e=.returned (.int .i64 0)/\AQ w' B b (DI r S)/\w.grownBy w' (some b):=by
 have m:=hS.sizes.1;obtain⟨hm,hz,⟨hR,ax⟩,N,ay,Z,f⟩:=R7 Y;have az:=Sy Y r;have a0:=SN Y r;have a1:(Hf r S).length<=r.length+400:=by
  have:=(JX.1 hm).2.2.1;rw[RD,B9,GI,Pl];unfold gap;omega
 have n:=PS r S;have s:=fun(x:A5) (d:Below u.heap.size u x)=>Xu hS ht d;obtain⟨⟨p,q,ca,cb,L,a2,a3,aa,ab⟩,hn,ac⟩:=hS;have g:=fun(x:A5) (d:Below u.heap.size u x) (a:AQ x B b r) (c:B<=x.heap.size)=>bB x B b r S.hd p ca (.slice q S.rows.length cb) S.zeros (fun y hy=>aa.below (d.grown hy d.size (fun j hj=>by injection hj with hj;omega))) hm a (by omega) c
 have i:=fun(x:A5) (d:Below u.heap.size u x) (a:AQ x B b (Hf r S)) (c:B<=x.heap.size)=>qH (N:=N) S p q ca cb ab ht d hN c a ax Z f ac (by rw[U4];omega);rw[<-L] at g i;rw[Y] at s;have z7:vs[7]? =some (.int .i64 S.zeros):=by rw[L];rfl
 obtain⟨z,M⟩:∃z:Nat,S.zeros=(z:Int):=⟨S.zeros.toNat,by omega⟩;rw[M] at z7 hz;rw[M,Dr] at n;have O:=fun(x:A5) (a:AQ x B b (FS r S)) (c:B<=x.heap.size)=>TV x B b (FS r S) a (by omega) c;have ad:ES S.hd.inter S.hd.fmt 0 (Hf r S) [] 0 S.rows=FS r S:=U4 r S;rw[ad] at i;have ae:DS r 0++Eh S.hd=Hf r S:=rfl;rw[ae] at g
 obtain⟨P,Q⟩:=Ah (FS r S++List.replicate (gap (FS r S).length) 48);rw[Q] at O n;have af:P.length<=32000000000:=by rw[<-Q,B9,Bl];unfold gap;omega
 have a4:=fun(x:A5) (j:Nat) (hj:j<=262144) (a:AQ x B b (P++List.replicate (8*j) 48)) (c:B<=x.heap.size)=>IJ x B b _ 0 8 a (by decide) (by decide) (by rw[B9,Bl];omega) c;have h8:∀j:Nat,P++List.replicate (8*j) 48++AB (0:Int).toNat (8:Int).toNat=P++List.replicate (8*(j+1)) 48:=fun j=>by
  rw[show AB (0:Int).toNat (8:Int).toNat=List.replicate 8 48 from NT 8,Bd,Ll];rfl
 generalize FS r S=bk at *;generalize Hf r S=bl at *;generalize DI r S=bm at *;obtain⟨D,hD⟩:=Ah w.heap.size;obtain⟨A,hA⟩:=Ah vs.toArray;obtain⟨F,k⟩:=Ah (w.alloc (.cells A 39 (0,0)));have R:Below w.heap.size w F:=by rw[<-k];exact(Dq _ w).alloc (Ba _) _
 have a5:F.heap.size=D+1:=by rw[<-k,<-hD];simp
 have T:F.heap[D]? =some (.cells A 39 (0,0)):=by rw[<-k,<-hD];exact heap_alloc_new w _
 have G:=hw.below R;have bd:b<D:=by rw[<-hD];exact hw.lt
 rw[hA] at m g i s ⊢;have U:=Dp (fun(x:A5) (d:w.grownBy x (some b))=>(⟨hu.grown d hu.size (fun j hj=>by injection hj with hj;omega),Eg hB d.size⟩:Below u.heap.size u x/\B<=x.heap.size));have a6:=Dp (fun(x:A5) (d:F.grownBy x (some b))=>((d.block D (by omega) (fun e=>by injection e with e;omega)).trans T:x.heap[D]? =some (.cells A 39 (0,0))))
 have bf:=Dp (fun(x:A5) (d:F.grownBy x (some b))=>(by
  have h:=(d.block D (by omega) (fun e=>by injection e with e;omega)).trans T;rw[<-hA] at h;exact AA (o:=7) h z7:x.cell? ⟨D,7,none⟩=some (.int .i64 (z:Int))))
 have ag:=Dp (BZ R (some b));have a7:=Dp k;have bg:=Dp hD;have a8:=Dp n;have bh:=Dp h8;have bi:z<=262144:=by omega
 have a9:=a6.out _ (BZ (Dq _ _) _);have ah:F.grownBy F (some b):=BZ (Dq _ _) _;have ba:=s F (U.out _ ag.out).1;clear L a2 a3 aa ab hn ac z7 n h8 k hD R a5 T hw hu hR ay Z f Y az a0 a1 hm hz M ad ae Q af hA s hr hB ht
 go_enter func37,ntmps37
 go_wp2_with (with_reducible refine N5 rfl 39 _ rfl _ rfl 39 A (0,0) _ (heap_alloc_new w _) Oa rfl m ?_)
 rw[a7.out,bg.out];refine ba.mono ?_;rintro e w2 ⟨rfl,V⟩;have H:=G.below V;have v:=AR ah (BZ V (some b));have ai:=a6.out _ v;obtain⟨aj,ak⟩:=U.out _ (AR ag.out v);have c2:=g w2 aj H ak;clear G a9 V H g aj ak ah
 go_wp2_with (with_reducible refine N5 rfl 39 _ rfl D rfl 39 A (0,0) _ ai Oa rfl m ?_)
 refine c2.mono ?_;rintro e w3 ⟨rfl,I,al⟩;have C:=AR v al;have am:=a6.out _ C;obtain⟨an,ao⟩:=U.out _ (AR ag.out C);have c3:=i w3 an I ao;clear ai c2 al v an ao i I
 go_wp2_with (with_reducible refine N5 rfl 39 _ rfl D rfl 39 A (0,0) _ am Oa rfl m ?_)
 refine c3.mono ?_;rintro e w4 ⟨rfl,J,ap⟩;have W:=AR C ap;obtain⟨bb,aq⟩:=U.out _ (AR ag.out W);have c4:=O w4 J aq;clear am c3 ap C bb aq O J
 go_wp2_with fail
 refine c4.mono ?_;rintro e w5 ⟨rfl,K,ar⟩;have X:=AR W ar;have k7:=bf.out _ X;have au:=AR ag.out X;clear c4 ar W X;have l:AQ w5 B b (P++List.replicate (8*0) 48):=by rw[Dh];exact(Fb P).symm▸K
 clear K
 go_wp2
 go_loopw [23] (fun t wr=>∃j:Nat,t=.int .i64 (j:Int)/\j<=z/\AQ wr B b (P++List.replicate (8*j) 48)/\w.grownBy wr (some b)) (fun t _=>z-(RowKit.intOf t).toNat)
 case atStart=>exact⟨0,rfl,Ds _,l,au⟩
 case round=>
  clear l au k7;obtain⟨j,rfl,hj,E,hg⟩:=hrel;by_cases bj:j<z
  ·have t1:decide ((j:Int)<(z:Int))=true:=by simp;omega
   have c5:=a4 wr j (by omega) E (U.out _ hg).2;rw[bh.out] at c5;clear E
   go_wp2_with fail
   refine c5.mono ?_;rintro e w6 ⟨rfl,av,aw⟩;have bc:=AR hg aw;clear c5 hg aw
   go_wp2
   go_roundw
   case rel=>exact⟨j+1,by go_num,by omega,av,bc⟩
   case measure=>simp[RowKit.intOf];omega
  ·obtain rfl:z=j:=by omega
   have t1:decide ((z:Int)<(z:Int))=false:=by simp
   rw[<-a8.out] at E
   go_wp2
   go_ret
   exact⟨rfl,E,hg⟩
end
def exSA:Cel:={Ec with kind:=3,dc:=fun _=>9}
def exS1:ShP:=⟨⟨0,0,6,false,5,[]⟩,[⟨false,0,0,[exSA,exSA]⟩,⟨false,0,0,[exSA,exSA]⟩],0⟩
theorem T6 (w:A5)(c:Cel)(hm:(Lit.int .i64 c.mx).wf=true/\(Lit.int .i64 c.my).wf=true)(h:∀i,i<6->c.ev i=[]):F5 w c (AJ c nilS):=
 ⟨fun _=>none,fun _=>0,Y7y fun i hi=>by rw[h i hi];rfl,hm,fun i hi=>by rw[h i hi];exact⟨Ds _,.inl rfl⟩⟩
theorem bZ {w:A5}{b:Nat}{c d:Cel}(hc:(Lit.int .i64 c.mx).wf=true/\(Lit.int .i64 c.my).wf=true)(hd:(Lit.int .i64 d.mx).wf=true/\(Lit.int .i64 d.my).wf=true)(a:∀i,i<6->c.ev i=[])(e:∀i,i<6->d.ev i=[])
  (h:w.heap[b]? =some (.cells (AJ c nilS++AJ d nilS).toArray 77 (0,0))):LS w (some ⟨b,0,none⟩) [c,d]:=by
 refine .inr ⟨b,0,rfl,(Am.1 h).1,fun i hi=>?_⟩
 match i,hi with
 |0,_=>
  refine⟨AJ c nilS,T6 w c hc a,fun j v hj=>?_⟩;have hl:j<18:=(Gd.1 hj).1;rw[Ch,Ar];exact AA h (by rw[Hd hl];exact hj)
 |1,_=>
  refine⟨AJ d nilS,T6 w d hd e,fun j v hj=>?_⟩;exact AA h (by rw[Gb (by show 18<=0+1*18+j;omega),show 0+1*18+j-(AJ c nilS).length=j by show 0+1*18+j-18=j;omega];exact hj)
theorem gL {w:A5}{b a b2:Nat}{l m:List Cel}(h:w.heap[b]? =some (.cells #[.bool false,.int .i64 0,.int .i64 0,.slice (some ⟨a,0,none⟩) 2 2,.bool false,.int .i64 0,.int .i64 0,.slice (some ⟨b2,0,none⟩) 2 2] 46 (0,0)))
  (hl:l.length=2)(hm:m.length=2)(h1:LS w (some ⟨a,0,none⟩) l)(h2:LS w (some ⟨b2,0,none⟩) m):H0 w (some ⟨b,0,none⟩) [⟨false,0,0,l⟩,⟨false,0,0,m⟩]:=by
 have c:w.heap[b]? =some (.cells [.bool false,.int .i64 0,.int .i64 0,.slice (some ⟨a,0,none⟩) 2 2,.bool false,.int .i64 0,.int .i64 0,.slice (some ⟨b2,0,none⟩) 2 2].toArray 46 (0,0)):=h;refine .inr ⟨b,0,rfl,(Am.1 h).1,fun i hi=>?_⟩
 match i,hi with
 |0,_=>
  refine⟨[.bool false,.int .i64 0,.int .i64 0,.slice (some ⟨a,0,none⟩) 2 2],⟨some ⟨a,0,none⟩,2,(by show _=[Value.bool false,.int .i64 0,.int .i64 0,.slice _ l.length 2];rw[hl]),(fun h=>by cases h),(by show l.length<=_;rw[hl];decide),h1⟩,fun j v hj=>?_⟩
  match j,hj with
  |0,hj|1,hj|2,hj|3,hj=>injection hj with hj;subst hj;exact AA c rfl
 |1,_=>
  refine⟨[.bool false,.int .i64 0,.int .i64 0,.slice (some ⟨b2,0,none⟩) 2 2],⟨some ⟨b2,0,none⟩,2,(by show _=[Value.bool false,.int .i64 0,.int .i64 0,.slice _ m.length 2];rw[hm]),(fun h=>by cases h),(by show m.length<=_;rw[hm];decide),h2⟩,fun j v hj=>?_⟩
  match j,hj with
  |0,hj|1,hj|2,hj|3,hj=>injection hj with hj;subst hj;exact AA c rfl
theorem Ys0 {P:Program}{ops:Array Oper}{rest:List Oper}{op:Oper}{a:Act}{w:A5}{Q:Exit->Act->A5->Prop}(c:op.guard=none)(ty:A7)(x y:Operand)(ho:op.op=.store ty x y)
  (Z b:Array A0)(T:A7)(N:Nat)(d:w.heap.size=N)(e:a.eval x=.pointer (some ⟨N,0,none⟩))(f:a.eval y=.agg Z)(hi:(P.info? ty).map (·.size)=some Z.size)(hs:b.size=Z.size)(h1:Z.all (·.oneCell')=true)
  (h:wpList P ops Q rest (a.put op.dst undef) (w.alloc (.cells Z T (0,0)))):wpList P ops Q (op::rest) a (w.alloc (.cells b T (0,0))):=by
 subst d;exact DA c ty x y ho Z b T e f hi hs h1 h
theorem OX (w:A5)(o:Obj):∃a,w.alloc o=a/\a.heap.size=w.heap.size+1/\a.heap[w.heap.size]? =some o/\Below w.heap.size w a:=
 ⟨_,rfl,by simp,heap_alloc_new w _,(Dq _ w).alloc (Ba _) _⟩
theorem mN (n:Nat)(w:A5)(hn:n<=1073741824):∃a,(Instr.makeSlice 95 (.int .i64 (n:Int)) (.int .i64 (n:Int))).run prog w=.ok (.slice (some ⟨w.heap.size,0,none⟩) n n) a/\
  a.ownsRow w.heap.size 5 1 (.slice (some ⟨w.heap.size,0,none⟩) n n) n (List.replicate n (.int .u8 0))/\w.grownBy a none:=by
 obtain⟨i,hi,b,hs,c⟩:=Dv (show (prog.info? 5).map (fun i=>(i.zero,i.size,i.bytes))=some (some (Value.int IntKind.u8 0),1,1) by kernel_rfl);obtain⟨a,h1,h2,h3⟩:=run_make_full (P:=prog) w w.heap.size 95 5 i (.int .u8 0) 1 Dw hi b hs .i64 .i64 n (by rw[c];omega) (by unfold maxLen;omega) (Ba _)
 rw[Gw,show (Value.int IntKind.u8 0).cells=#[.int .u8 0] from rfl,toList_madeCells_one] at h2;exact⟨a,h1,h2,h3⟩
theorem lI (j m:Nat)(hj:j<m):(List.replicate j (Value.int .u8 48)++List.replicate (m-j) (Value.int .u8 0)).set j (Value.int .u8 48)=List.replicate (j+1) (Value.int .u8 48)++List.replicate (m-(j+1)) (Value.int .u8 0):=by
 rw[Ht _ _ (by simp),Bl,Ci,show m-j=(m-(j+1))+1 by omega,List.replicate_succ,Hl,Cd,Bd];rfl
theorem Yv7 (n:Nat):II (List.replicate n 48)=List.replicate n (Value.int .u8 48):=by
 unfold II;rw[List.map_replicate];rfl
set_option maxRecDepth 100000 in
theorem Qaf {u w:A5}{S:ShP}{l:List A0}(a:Nat)(hS:OG u S l)(hu:Below u.heap.size u w)(h0:C4 S=0)(ha:a<=1000000):
  A9 prog 42 #[.int .i64 (a:Int),.agg l.toArray] w fun e w'=>e=.returned (.string (AV (GX a++CV (a+gap a) S)))/\Below w.heap.size w w':=by
 have d0:=hS.sizes.1;obtain⟨r,an⟩:∃r:List UInt8,r.length=a:=⟨List.replicate a 48,Bl⟩;obtain⟨hm,hz,⟨hR,d1⟩,N,d2,f1,Z⟩:=R7 h0;have M:=Sy h0 r;have bz:=SN h0 r;have B:=PS r S;have b0:DI r S=r++(GX a++CV (a+gap a) S):=by unfold DI;rw[an]
 obtain⟨⟨p,q,ca,cb,O,d3,d4,b3,b4⟩,b5,b6⟩:=hS;have bc:=fun(x:A5) (b:Below u.heap.size u x)=>fZ S.hd a p ca (.slice q S.rows.length cb) S.zeros (by omega) hm x (b3.below b);rw[<-O] at bc;have b7:r++KE a S.hd=Hf r S:=by unfold Hf;rw[tC,an]
 have f2:(KE a S.hd).length<=200:=by
  have:=(JX.1 hm).2.2.1;rw[qC];unfold gap;omega
 have bd:ES S.hd.inter S.hd.fmt 0 (r++KE a S.hd) [] 0 (S.rows.drop 0)=FS r S:=by rw[b7];exact U4 r S
 have rm:=fun(i:Nat) (hi:i<S.rows.length)=>XR Z hi;have b8:=fun(i:Nat) (hi:i<S.rows.length) c (hc:c∈S.rows[i].cels)=>b6 c (Ob.2 ⟨_,Bn hi,hc⟩);have b9:=fun(i:Nat) (R:List UInt8) (vs:List (Int×Int)) (first:Int) (hi:i<S.rows.length)=>XG (inter:=S.hd.inter) (k:=S.hd.fmt) i R vs first hi
 have a3:=fun(R:List UInt8) (vs:List (Int×Int)) (first:Int)=>(show ES S.hd.inter S.hd.fmt S.rows.length R vs first (S.rows.drop S.rows.length)=R by rw[Ou];exact YN ..);have z2:l[2]? =some (.int .i64 S.hd.fmt):=by rw[O];rfl
 have z3:l[3]? =some (.bool S.hd.inter):=by rw[O];rfl
 have z6:l[6]? =some (.slice q S.rows.length cb):=by rw[O];rfl
 have z7:l[7]? =some (.int .i64 S.zeros):=by rw[O];rfl
 obtain⟨z,bf⟩:∃z:Nat,S.zeros=(z:Int):=⟨S.zeros.toNat,by omega⟩;rw[bf] at z7 hz;rw[bf,Dr] at B;have ao:=fun(x:A5)=>Uh S.hd.fmt x;rw[(HH S.hd.fmt).1] at ao;have cc:=fun(x:A5)=>O2 S.hd.fmt x;have f3:=fun w=>(Sj (CU S.hd.fmt) (D4 S.hd.fmt) (BJ S.hd.fmt) (BP S.hd.fmt) w).1;unfold JH at cc
 have f4:B1 S.hd.fmt<=1000:=by have:=(HH S.hd.fmt).1;have:=(O1 S.hd.fmt).2.2.2.2;omega
 have wm:=fun(i:Nat) (hi:i<=1000)=>Vp S.hd.fmt hi;have bg:∀(i:Nat) (R:List UInt8) (vs:List (Int×Int)) (first:Int) (rs:List RowP),ES S.hd.inter S.hd.fmt i R vs first rs=FS r S->R.length<=200000000:=fun i R vs first rs h=>by
  rw[<-h] at M;unfold ES at M;rw[B9] at M;omega
 generalize KE a S.hd=d5 at *;obtain⟨T,hT⟩:=Ah (FS r S);rw[hT] at B M bd bg;obtain⟨D,hD⟩:=Ah w.heap.size;obtain⟨g,aa⟩:=Ah (w.alloc (.cells l.toArray 39 (0,0)));have bh:Below w.heap.size w g:=by rw[<-aa];exact(Dq _ w).alloc (Ba _) _
 have P:g.heap.size=D+1:=by rw[<-aa,<-hD];simp
 have cd:g.heap[D]? =some (.cells l.toArray 39 (0,0)):=by rw[<-aa,<-hD];exact heap_alloc_new w _
 have d6:u.heap.size<=D:=by rw[<-hD];exact hu.size
 have ce:Below u.heap.size u g:=hu.trans (bh.mono hu.size);have U:=Dp (fun(x:A5) (b:Below (D+1) g x)=>(ce.trans (b.mono (by omega)):Below u.heap.size u x));have W:=Dp (fun(x:A5) (b:Below (D+1) g x)=>(bh.trans (b.mono (by omega)):Below w.heap.size w x));have hk:∀x,Below (D+1) g x->x.heap[D]? =some (.cells l.toArray 39 (0,0)):=fun x b=>(b.block D (by omega)).trans cd
 generalize f5:S.hd.fmt=k at *;generalize f6:S.hd.inter=inter at *;obtain⟨n,ap⟩:=Ah S.rows.length;have d7:=Dp (fun(x:A5) (b:Below (D+1) g x)=>AA (o:=2) (hk x b) z2);have f7:=Dp (fun(x:A5) (b:Below (D+1) g x)=>AA (o:=3) (hk x b) z3)
 have d8:=Dp (fun(x:A5) (b:Below (D+1) g x)=>(by rw[<-ap];exact AA (o:=6) (hk x b) z6:x.cell? ⟨D,6,none⟩=some (.slice q n cb)));have f8:=Dp (fun(x:A5) (b:Below (D+1) g x)=>AA (o:=7) (hk x b) z7);have d9:=fun(x y:A5) (b:Below (D+1) g x) (hy:Below x.heap.size x y)=>(b.trans (hy.mono (by have:=b.size;omega)):Below (D+1) g y)
 have f9:=Dp (fun(x:A5) (b:Below (D+1) g x)=>((ao x).mono fun e y h=>⟨h.1,d9 x y b h.2⟩:A9 prog 65 #[.int .i64 k] x fun e y=>e=.returned (.int .i64 (B1 k))/\Below (D+1) g y));have H:=Dp d9;have cf:=Dp ao;have bi:=Dp P;rw[ap] at d1;have ea:=Dp aa;have ga:=Dp hD;have eb:=Dp ap;have ec:=Dp b4;have cg:=Dp bd
 have bj:=Dp bg;have gb:=Dp b9;have ch:=Dp a3;have gc:=Dp rm;have ed:=Dp b8;have gd:=Dp wm;have ee:=Dp B;have ef:=Dp b0;have ge:=Dp bz;have gf:=Dp M;have ci:=Dp an;have I:Below (D+1) g g:=Dq _ _;have c1:=bc g (U.out _ I);have gg:z<=262144:=by omega
 have eg:=fun(f:Nat->Int×Int) (vp:Option Addr) (n' cj:Nat) (first:Int) (x:A5) (hv:IX x vp n' f) (gh:n'<=1048576)=>mW f vp n' cj (B1 k) first x hv (by unfold maxLen;omega) (by omega)
 clear aa hD b4 bd bg b9 a3 rm b8 wm B b0 bz M an hu ce bh P hm hz hR d2 Z h0 O d3 d4 b3 b5 b6 bc z2 z3 z6 z7 bf ao hk b7 hT d9 cd d6 ap
 go_enter func42,ntmps42
 go_wp2_with (with_reducible refine N5 rfl 39 _ rfl _ rfl 39 l.toArray (0,0) _ (heap_alloc_new w _) Oa rfl d0 ?_)
 rw[ea.out];refine c1.mono ?_;rintro e w2 ⟨rfl,ck⟩;have a4:=H.out _ _ I ck;clear c1 I ck;have eh:Hid (AO d5=AV d5):=Dp rfl;rw[eh.out,ga.out]
 go_wp2
 go_loopw [5,6,7,8] (fun o v f t wr=>∃(i:Nat) (first:Int) (vs:List (Int×Int)) (X:List UInt8),o=.string (AV X)/\f=.int .i64 first/\t=.int .i64 (i:Int)/\i<=n/\wr.ownsRow (D+1) 73 2 v vs.length (GM vs)/\Hid (ES inter k i (r++X) vs first (S.rows.drop i)=T)/\Below (D+1) g wr/\Hid (vs.length<=1000*i)) (fun _ _ _ t _=>n-(RowKit.intOf t).toNat)
 case atStart=>exact⟨0,0,[],d5,rfl,rfl,rfl,Ds _,Dn ..,cg,a4,Dp (Ds _)⟩
 case round=>
  clear a4 cg;obtain⟨i,first,vs,X,rfl,rfl,rfl,hi,hv,hT,Y,bk⟩:=hrel;have k6:=d8.out _ Y;by_cases ei:i<n
  ·have t1:decide ((i:Int)<(n:Int))=true:=by simp;omega
   have aq:i<S.rows.length:=by rw[eb.out];exact ei
   obtain⟨b1,o1,cl,fk,cm⟩:=MU ec.out (by rw[eb.out];omega);obtain⟨rq,cap,hq,ej,ab,bl⟩:=cm i aq;have ar:=gb.out i (r++X) vs first aq
   rw[hT.out] at ar;obtain⟨ek,bm,dx⟩:=gc.out i aq;have el:=ed.out i aq;have em:=gd.out i (by omega);obtain⟨row,a5⟩:=Ah (S.rows[i]);rw[a5] at ej ab bl ar ek bm dx el;subst cl;have au:=Dp (fun(x:A5) (b:Below (D+1) g x)=>bl x (U.out x b));have cn:=Dp ab;have en:=Dp ar;have ac:=Dp ek;have co:=Dp bm;have eo:=Dp el
   have C:X.length<=200000000:=by have h:=bj.out _ _ _ _ _ hT.out;rw[B9] at h;omega
   have gi:=Dp C;obtain⟨q0,q1,q2,q3⟩:=au.out _ Y;have bn:=Dp Y;have ep:=Dp hv;clear ab bl cm ar ek bm el a5 hT Y
   go_upto_if 28 with fail
   go_cut [5,7] (fun o f wx=>∃bw,o=.string (AV bw)/\f=.int .i64 (E3 k i first row)/\Hid (r++bw=(r++X)++EP i (r++X).length row)/\Below wr.heap.size wr wx)
   case first=>
    cases hd:row.head with
    |false=>
     try rw[hd]
     go_wp2
     go_meet
     case rel=>exact⟨X,rfl,by unfold E3;rw[hd];rfl,Dp (by unfold EP;rw[hd];exact(Fb _).symm),Dq _ _⟩
    |true=>
     obtain⟨eq,ia,iq,bo,bp,gj,cl,fl⟩:=dx hd;have cq:=fun(x:A5)=>kW (a+X.length) i ia iq (by omega) (by omega) x;have bq:=fun(x y:A5) (b:Below wr.heap.size wr x) (hy:Below x.heap.size x y)=>(b.trans (hy.mono b.size):Below wr.heap.size wr y)
     have cr:=Dp (fun(x:A5) (b:Below wr.heap.size wr x)=>((cq x).mono fun e y h=>⟨h.1,bq x y b h.2⟩:A9 prog 77 #[.int .i64 ((a+X.length:Nat):Int),.int .i64 (i:Int),.int .i64 (ia:Int),.int .i64 (iq:Int)] x fun e y=>e=.returned (.string (AO (EQ (a+X.length) i ia iq)))/\Below wr.heap.size wr y))
     have d:∀x,Below wr.heap.size wr x->Below (D+1) g x:=fun x b=>H.out _ _ bn.out b;have er:=Dp (fun(x:A5) (b:Below wr.heap.size wr x)=>d8.out x (d x b));have dy:=Dp (fun(x:A5) (b:Below wr.heap.size wr x)=>d7.out x (d x b))
     have fm:=Dp (fun(x:A5) (b:Below wr.heap.size wr x)=>(by rw[<-bo];exact(au.out x (d x b)).2.1:x.cell? ⟨b1,o1+i*4+1,none⟩=some (.int .i64 (ia:Int))));have fn:=Dp (fun(x:A5) (b:Below wr.heap.size wr x)=>(by rw[<-bp];exact(au.out x (d x b)).2.2.1:x.cell? ⟨b1,o1+i*4+2,none⟩=some (.int .i64 (iq:Int))));have P:(AV X).size<=200000000:=by rw[H8];exact C
     have es:(AO (EQ (a+X.length) i ia iq)).size<=100:=by
      rw[IC,Wg];unfold gap;omega
     have ct:(AV X).size=X.length:=H8 X;have wS:IntKind.i64.wrap ((a:Int)+(X.length:Int))=((a+X.length:Nat):Int):=by rw[CL (by omega)];omega
     have gl:=Dp wS;have ad:Hid (AV X++AO (EQ (a+X.length) i ia iq)=AV (X++EQ (a+X.length) i ia iq)):=Dp (by rw[HP];rfl);have et:Hid (r++(X++EQ (a+X.length) i ia iq)=(r++X)++EP i (r++X).length row):=Dp (by unfold EP;rw[hd,Bc rfl,bo,bp,Dr,Dr,B9,ci.out,Bd])
     have eu:Hid (E3 k i first row=(i:Int)*BP k):=Dp (by unfold E3;rw[hd];rfl);have av:=(Dq wr.heap.size wr).drew;have fo:=Dp ct;generalize AO (EQ (a+X.length) i ia iq)=sh at *;obtain⟨sx,F⟩:=Ah (AV X);rw[F] at fo ad P ⊢;clear hd bo bp eq dx cq bq wS ct F d q1 q2 q3 k6 C
     go_wp2
     refine BY (S:=fun x=>Below wr.heap.size wr x) 20 (by kernel_rfl) (by kernel_rfl) av ?_;simp only[Dt,Bi,Hb,I0]
     iterate 4 (refine AG ?_;simp only[A1])
     refine AP (v:=.int .i64 ((a+X.length:Nat):Int)) (by kernel_rfl) (fun x b=>by go_simp;rw[fo.out,gl.out];omega) ?_;simp only[A1]
     iterate 2 (refine AG ?_;simp only[A1])
     refine AN 37 _ ⟨D,6,none⟩ (.slice (some ⟨b1,o1,none⟩) n cb) (by kernel_rfl) rfl rfl (fun x b=>by have c0:=er.out x b;go_simp) ?_;simp only[A1]
     iterate 3 (refine AG ?_;simp only[A1])
     refine AN 3 _ ⟨b1,o1+i*4+1,none⟩ (.int .i64 (ia:Int)) (by kernel_rfl) rfl rfl (fun x b=>by have c0:=fm.out x b;go_simp) ?_;simp only[A1];refine AG ?_;simp only[A1];refine AN 37 _ ⟨D,6,none⟩ (.slice (some ⟨b1,o1,none⟩) n cb) (by kernel_rfl) rfl rfl (fun x b=>by have c0:=er.out x b;go_simp) ?_;simp only[A1]
     iterate 3 (refine AG ?_;simp only[A1])
     refine AN 3 _ ⟨b1,o1+i*4+2,none⟩ (.int .i64 (iq:Int)) (by kernel_rfl) rfl rfl (fun x b=>by have c0:=fn.out x b;go_simp) ?_;simp only[A1];refine AS (by kernel_rfl) cr.out (fun _=>by kernel_rfl) ?_;simp only[A1];refine AP (v:=.string (sx++sh)) (by kernel_rfl) (fun x _=>by go_simp;first|omega|trivial) ?_;simp only[A1];refine BV fun x b=>?_;have d:=H.out _ _ bn.out b
     have k2:=d7.out _ d;have cu:=cc x;clear cr er dy fm fn
     go_wp2_with fail
     refine cu.mono ?_;rintro e x2 ⟨rfl,cv⟩;have aw:=b.trans (cv.mono b.size);rw[ad.out];clear b cv cu k2 d
     go_wp2
     go_meet
     case rel=>exact⟨_,rfl,by rw[eu.out],et,aw⟩
   case rest=>
    obtain⟨bw,rfl,rfl,cw,I⟩:=hcut;obtain⟨wk,rfl⟩:∃x,x=wc:=⟨_,rfl⟩;obtain⟨f,hf⟩:=Ah (E3 k i first row)
    have ae:=en.out;rw[<-cw.out,hf] at ae;rw[hf];have ax:=H.out _ _ bn.out I;have cx:wk.ownsRow (D+1) 73 2 u6 vs.length (GM vs):=Sq ep.out I;have ev:=d8.out _ ax;obtain⟨-,-,-,q3⟩:=au.out _ ax;rw[ac.out] at q3;obtain⟨bx,br⟩:=Ah (G2 inter k f (r++bw) vs row.cels);rw[br] at ae;have a6:Hid (G2 inter k f (r++bw) vs (row.cels.drop 0)=bx):=Dp br
    have ew:=Dp ae;have ex:Hid (bx.length<=200000000):=Dp (bj.out _ _ _ _ _ ae.symm);clear br ae cw hf q0 q1 q2 dx em I k6 hv
    go_wp2
    go_loopw [5,6,10] (fun o v t wr=>∃(j:Nat) (vz:List (Int×Int)) (Q:List UInt8),o=.string (AV Q)/\t=.int .i64 (j:Int)/\j<=N/\wr.ownsRow (D+1) 73 2 v vz.length (GM vz)/\Hid (G2 inter k f (r++Q) vz (row.cels.drop j)=bx)/\Below (D+1) g wr/\Hid (vz=vs++C5 (row.cels.take j))) (fun _ _ t _=>N-(RowKit.intOf t).toNat)
    case atStart=>exact⟨0,vs,bw,rfl,rfl,Ds _,cx,a6,ax,Dp (by simp[C5])⟩
    case round=>
     clear cx a6 ax q3 ev;obtain⟨j,vz,Q,rfl,rfl,hj,hv,af,Y,ag⟩:=hrel;by_cases ey:j<N
     ·have t2:decide ((j:Int)<(N:Int))=true:=by simp;omega
      have ay:j<row.cels.length:=by rw[ac.out];exact ey
      obtain⟨b2,o2,ez,fp,cy⟩:=CD.each cn.out (by omega);obtain⟨cs,hV,cz⟩:=cy j ay;obtain⟨c,ah⟩:=Ah (row.cels[j]);have ai:c∈row.cels:=ah▸Bn ay;have az:G2 inter k f (r++Q) vz (c::row.cels.drop (j+1))=bx:=by rw[<-ah,<-Fo ay];exact af.out
      rw[bO] at az;have a7:vz++[(c.mx,c.my)]=vs++C5 (row.cels.take (j+1)):=by
       rw[ag.out,Be ay,ah];unfold C5;rw[Cl,Bd];rfl
      rw[ah] at hV;have fq:vz.length<=1048575:=by
       have h1:=bk.out;rw[ag.out];unfold C5;rw[B9,G9,Bf];omega
      have C:Q.length<=200000000:=by
       have h1:=ex.out;have h2:=C6 List.length af.out;unfold G2 at h2;rw[B9,B9] at h2;omega
      obtain⟨gm,aj,c5⟩:cs.length=18/\(prog.info? 77).map (·.size)=some cs.length/\True:=⟨hV.shape.1,by rw[hV.shape.1];kernel_rfl,trivial⟩;obtain⟨pp,cp,a0,e0,he⟩:=hV;have c6:∀x,Below (D+1) g x->GZ x c pp fun i=>(c.ev i).length:=fun x b i hi=>⟨rfl,eo.out c ai i hi,(he i hi).2.below (U.out x b)⟩;have ak:=co.out c ai;obtain⟨vp,a8,e1,c7⟩:=Tg rfl hv;subst e1
      obtain⟨⟨fx,fy⟩,bs⟩:=Ah (DT vz (B1 k) f);rw[bs] at az;have bq:=fun(x y:A5) (b:Below wr.heap.size wr x) (hy:Below x.heap.size x y)=>(b.trans (hy.mono b.size):Below wr.heap.size wr y);have d:∀x,Below wr.heap.size wr x->Below (D+1) g x:=fun x b=>H.out _ _ Y b
      have fr:=Dp (fun(x:A5) (b:Below wr.heap.size wr x)=>(eg (fun i=>vz.getD i (0,0)) vp vz.length a8 f x (c7.mono b) (by omega)).mono fun e y (zz:KV _ x e y)=>
       (⟨by rw[zz.1,show KU (fun i=>vz.getD i (0,0)) vz.length (B1 k) f=(fx,fy) from bs];rfl,bq x y b zz.2⟩:e=.returned (.agg #[.int .i64 fx,.int .i64 fy])/\Below wr.heap.size wr y))
      have fs:=Dp (fun(x:A5) (b:Below wr.heap.size wr x)=>((cf.out x).mono fun e y h=>⟨h.1,bq x y b h.2⟩:A9 prog 65 #[.int .i64 k] x fun e y=>e=.returned (.int .i64 (B1 k))/\Below wr.heap.size wr y));have ft:=Dp (fun(x:A5) (b:Below wr.heap.size wr x)=>(by
       rw[a0];exact(gX inter fx fy c pp (fun i=>(c.ev i).length) cp x (c6 x (d x b)) ak).mono fun e y h=>⟨h.1,bq x y b h.2⟩:A9 prog 78 #[.bool inter,.agg #[.int .i64 fx,.int .i64 fy],.agg cs.toArray] x fun e y=>e=.returned (.string (AV (CQ inter fx fy c)))/\Below wr.heap.size wr y))
      have dy:=Dp (fun(x:A5) (b:Below wr.heap.size wr x)=>d7.out x (d x b));have fu:=Dp (fun(x:A5) (b:Below wr.heap.size wr x)=>f7.out x (d x b));have dz:=Dp (fun(x:A5) (b:Below wr.heap.size wr x)=>((fun j' v e2=>cz x (U.out x (d x b)) j' v e2):x.rangeAt b2 (o2+j*18) cs));have v4:cs[4]? =some (.int .i64 c.mx):=by rw[a0];rfl
      have v5:cs[5]? =some (.int .i64 c.my):=by rw[a0];rfl
      have c8:∀x,Below wr.heap.size wr x->x.rangeAt b2 (o2+j*18+4) [.int .i64 c.mx,.int .i64 c.my]:=fun x b t v ht=>by
       match t,ht with
       |0,ht=>injection ht with ht;subst ht;exact dz.out x b 4 _ v4
       |1,ht=>injection ht with ht;subst ht;exact dz.out x b 5 _ v5
      have c9:=Dp c8;have P:(AV Q).size<=200000000:=by rw[H8];exact C
      have es:(AV (CQ inter fx fy c)).size<=20000:=by rw[H8];exact RI ak fx fy
      have ad:Hid (AV Q++AV (CQ inter fx fy c)=AV (Q++CQ inter fx fy c)):=Dp (by rw[HP];rfl);have e3:Hid (G2 inter k f (r++(Q++CQ inter fx fy c)) (vz++[(c.mx,c.my)]) (row.cels.drop (j+1))=bx):=Dp (by rw[<-Bd];exact az);have da:=Dp a7;have av:=(Dq wr.heap.size wr).drew;have db:=Dp Y;have e4:=Dp hv;have gn:=hv.lt
      generalize AV (CQ inter fx fy c)=sr at *;obtain⟨sx,F⟩:=Ah (AV Q);rw[F] at ad P ⊢;subst ez;clear ah ai af az ag a7 C a0 e0 he c6 ak c7 bs bq d v4 v5 c8 F cz cy Y c5
      go_wp2
      refine BY (S:=fun x=>Below wr.heap.size wr x) 15 (by kernel_rfl) (by kernel_rfl) av ?_;simp only[Dt,Bi,Hb,I0]
      iterate 2 (refine AG ?_;simp only[A1])
      refine AN 4 _ ⟨D,3,none⟩ (.bool inter) (by kernel_rfl) rfl rfl (fun x b=>by have c0:=fu.out x b;go_simp) ?_;simp only[A1]
      iterate 2 (refine AG ?_;simp only[A1])
      refine AN 3 _ ⟨D,2,none⟩ (.int .i64 k) (by kernel_rfl) rfl rfl (fun x b=>by have c0:=dy.out x b;go_simp) ?_;simp only[A1];refine AS (by kernel_rfl) fs.out (fun _=>by kernel_rfl) ?_;simp only[A1];refine AG ?_;simp only[A1];refine AS (by kernel_rfl) fr.out (fun _=>by kernel_rfl) ?_;simp only[A1]
      iterate 3 (refine AG ?_;simp only[A1])
      refine Vh 77 _ b2 (o2+j*18) cs _ (by kernel_rfl) rfl rfl (fun x b=>dz.out x b) N0 rfl aj ?_;simp only[A1];refine AS (by kernel_rfl) ft.out (fun _=>by kernel_rfl) ?_;simp only[A1];refine AP (v:=.string (sx++sr)) (by kernel_rfl) (fun x _=>by go_simp;first|omega|trivial) ?_;simp only[A1];refine BV fun x b=>?_;rw[ad.out];have dc:=c9.out _ b
      have dd:x.ownsRow (D+1) 73 2 (.slice vp vz.length a8) vz.length (GM vz):=Sq e4.out b;have aw:Below (D+1) g x:=H.out _ _ db.out b;have e5:D+1<=x.heap.size:=by have:=aw.size;have:=db.out.size;have:=bi.out;omega
      obtain⟨ti,j0,j1,j2,j3⟩:=UJ;clear fr fs ft dy fu dz c9 av aj
      go_wp2_with (first|(with_reducible refine aH rfl _ rfl b2 (o2+j*18+4) rfl c.mx c.my dc ?_)|(at_builtin;refine sL (y0:=c.mx) (y1:=c.my) rfl rfl underlying98 j0 j1 rfl j2 j3 rfl (dd.alloc _) rfl ?c1 ?c2 ?c3 ?c4 ?_;(case c1=>go_cell);(case c2=>go_cell);(case c3=>omega);(case c4=>(simp;omega));intro v2 w2 e6 e7))
      go_roundw
      case rel=>
       have e8:Below x.heap.size x (x.alloc (.cells #[.int .i64 c.mx,.int .i64 c.my] 73 (0,0))):=(Dq _ x).alloc (Ba _) _;refine⟨j+1,vz++[(c.mx,c.my)],_,rfl,by go_num,by omega,by rw[B9,Sm];exact e6,e3,(aw.trans (e8.mono e5)).grown e7 (by simp;omega) (fun t ht=>by have:=(dd.lt t ht).1;omega),da⟩
      case measure=>simp[RowKit.intOf];omega
     ·obtain rfl:N=j:=by omega
      have t2:decide ((N:Int)<(N:Int))=false:=by simp
      have de:row.cels.drop N=[]:=by rw[<-ac.out,Ou]
      have df:row.cels.take N=row.cels:=by rw[<-ac.out,J1]
      have dg:r++Q=bx:=by
       have h1:=af.out;rw[de,Xx] at h1;exact h1
      have al:vz=vs++C5 row.cels:=by rw[ag.out,df]
      have e9:Hid (ES inter k (i+1) (r++Q) vz f (S.rows.drop (i+1))=T):=Dp (by rw[dg,al];exact ew.out.symm);have dh:Hid (vz.length<=1000*(i+1)):=Dp (by
       have h1:=bk.out;rw[al];unfold C5;rw[B9,G9,ac.out];omega)
      clear de df dg al ag af
      go_wp2
      go_roundw
      case rel=>exact⟨i+1,f,vz,Q,rfl,rfl,by go_num,by omega,hv,e9,Y,dh⟩
      case measure=>simp[RowKit.intOf];omega
  ·obtain rfl:n=i:=by omega
   have t1:decide ((n:Int)<(n:Int))=false:=by simp
   have bt:r++X=T:=by
    have h1:=hT.out;rw[<-eb.out,ch.out] at h1;exact h1
   have k7:=f8.out _ Y;have C:X.length<=200000000:=by have h:=bj.out _ _ _ _ _ hT.out;rw[B9] at h;omega
   obtain⟨L,hL⟩:=Ah X.length;have di:T.length=a+L:=by rw[<-bt,B9,ci.out,hL]
   obtain⟨G,hG⟩:=Ah (gap (a+L));have gp:G=(8-(a+L)%8)%8:=hG.symm;have a9:DI r S=r++((X++List.replicate G 48)++List.replicate (8*z) 48):=by
    rw[ee.out,di,hG,<-bt];simp only[Bd]
   have ba:GX a++CV (a+gap a) S=(X++List.replicate G 48)++List.replicate (8*z) 48:=List.append_cancel_left (ef.out.symm.trans a9);have dj:=Dp ba;have fv:=Dp hL;rw[hL] at C;clear bt hT hv di hG a9 ba hL bk
   go_wp2
   clear k6
   go_loopw [5] (fun o wz=>∃m:Nat,m<=G/\o=.string (AV (X++List.replicate m 48))/\wz=wr) (fun o _=>G+L-(match o with|.string s=>s.size|_=>0))
   case atStart=>exact⟨0,Ds _,by rw[Ot,Fb],rfl⟩
   case round=>
    obtain⟨m,gq,rfl,rfl⟩:=hrel;have a1:(AV (X++List.replicate m 48)).size=L+m:=by rw[H8,B9,Bl,fv.out]
    have J:AV (X++List.replicate m 48)++⟨#[48]⟩=AV (X++List.replicate (m+1) 48):=TC X m;have bu:(AV (X++List.replicate (m+1) 48)).size=L+(m+1):=by rw[H8,B9,Bl,fv.out]
    have fa:=Dp bu;obtain⟨c,hc⟩:=Ah (a+(L+m));have dk:(c:Int).tmod 8=((c%8:Nat):Int):=by rw[Iu (by omega)];rfl
    have dl:c%8=0↔m=G:=by omega
    have bv:IntKind.i64.wrap ((a:Int)+((L+m:Nat):Int))=(c:Int):=by rw[CL (by omega)];omega
    have dn:=Dp bv;by_cases gr:m<G
    ·have dm:(((c%8:Nat):Int) != 0)=true:=by rw[Fl];omega
     have fw:=Dp J;have fb:(AV (X++List.replicate m 48)).size<=200001000:=by omega
     have K:=Dp a1;obtain⟨sy,A⟩:=Ah (AV (X++List.replicate m 48));rw[A] at fw K fb ⊢;obtain⟨n8,fc⟩:=Ah sy.size;have dp:IntKind.i64.wrap ((a:Int)+(sy.size:Int))=(c:Int):=by rw[K.out];exact dn.out
     generalize c%8=m8 at dk dm;clear a1 J bu hc dl bv A fc
     go_wp2
     rw[fw.out]
     go_roundw
     case rel=>exact⟨m+1,by omega,rfl,by trivial⟩
     case measure=>
      have h1:=fa.out;have h2:=K.out;simp only[h1,h2];omega
    ·obtain rfl:m=G:=by omega
     have dm:(((c%8:Nat):Int) != 0)=false:=by rw[I9];omega
     have K:=Dp a1;obtain⟨sy,A⟩:=Ah (AV (X++List.replicate m 48));have fd:=Dp A;rw[A] at K ⊢;have dp:IntKind.i64.wrap ((a:Int)+(sy.size:Int))=(c:Int):=by rw[K.out];exact dn.out
     have gs:sy.size<=200001000:=by have:=K.out;omega
     generalize c%8=m8 at dk dm;obtain⟨V,dq⟩:=Ah (8*z);have gt:IntKind.i64.wrap (8*(z:Int))=(V:Int):=by rw[CL (by omega)];omega
     have gu:V<=2097152:=by omega
     obtain⟨x3,dr,am,ds⟩:=mN V wr (by omega);have dt:Below (D+1) g x3:=H.out _ _ Y ((Dq _ wr).grown ds (Ba _) (by intro k hk;cases hk));have fe:D+1<=wr.heap.size:=by have:=Y.size;have:=bi.out;omega
     generalize ff:wr.heap.size=E at dr am fe;have fz:=Dp am;have du:=Dp dt;have dv:=Dp dq;clear a1 J bu hc dl bv A ds dt am dq ff
     go_wp2
     go_loopw [12] (fun t wz=>∃j:Nat,j<=V/\t=.int .i64 (j:Int)/\wz.ownsRow E 5 1 (.slice (some ⟨E,0,none⟩) V V) V (List.replicate j (.int .u8 48)++List.replicate (V-j) (.int .u8 0))/\x3.grownBy wz (some E)) (fun t _=>V-(RowKit.intOf t).toNat)
     case atStart=>exact⟨0,Ds _,rfl,by rw[Ot,Cc,Nat.sub_zero];exact fz.out,BZ (Dq _ _) _⟩
     case round=>
      clear dr fz;obtain⟨j,hj,rfl,ho,hg⟩:=hrel;by_cases fg:j<V
      ·have t2:decide ((j:Int)<(V:Int))=true:=by simp;omega
       have c0:=World.ownsRow.cellAt ho j (by omega);have f0:=World.ownsRow.frozenAt ho j;have B:=World.ownsRow.stored ho j (.int .u8 48);rw[lI j V fg] at B;have bb:=Dp B;have c1:∃v,wr.cell? ⟨E,j,none⟩=some v:=by
        rw[c0];exact⟨_,Fj (by simp;omega)⟩
       obtain⟨vj,c1⟩:=c1;have gv:=Dp hg;clear c0 B ho hg
       go_wp2
       go_roundw
       case rel=>exact⟨j+1,by omega,by go_num,bb.out.1,AR gv.out bb.out.2⟩
       case measure=>simp[RowKit.intOf];omega
      ·obtain rfl:j=V:=by omega
       have t2:decide ((j:Int)<(j:Int))=false:=by simp
       have dw:DU wr E 5 (.slice (some ⟨E,0,none⟩) j j) (List.replicate j 48):=by
        unfold DU;rw[Yv7,Bl];rw[Ci,Ot,Fb] at ho;exact ho
       have fh:=DU.text Dw Dy Dx dw;have fi:Below (D+1) g wr:=du.out.grown hg (by have:=du.out.size;have:=bi.out;omega) (fun k hk=>by injection hk with hk;omega);obtain⟨nz,a2⟩:∃nz:ByteArray,⟨(List.replicate j 48).toArray⟩=nz:=⟨_,rfl⟩;rw[a2] at fh;have gw:nz.size<=3000000:=by rw[<-a2,HX,Bl];have:=dv.out;omega
       have fj:Hid (sy++nz=AV (GX a++CV (a+gap a) S)):=Dp (by
        rw[dj.out,<-fd.out,<-a2,HP,dv.out])
       clear ho dw a2
       go_wp2
       go_ret
       exact⟨by rw[fj.out];rfl,W.out _ fi⟩
set_option maxRecDepth 100000 in
theorem ZR (s:ByteArray)(hs:s.size<=1073741824)(hr:AL s.data.toList=true)(w:A5):
  A9 prog 41 #[.string s] w fun e x=>e=.returned (.string ⟨(BM s.data.toList).toArray⟩)/\Below w.heap.size w x:=by
 obtain⟨P,hi,o,q,r⟩:=Dv Uo;obtain⟨B,z⟩:=Ah w.heap.size;have D:B<=w.heap.size:=by omega
 rw[z];clear z;obtain⟨l,rfl⟩:=jR s;have hl:l.length<=1073741824:=by rw[HX] at hs;exact hs
 have hr:AL l=true:=hr;have R:=Dp hr;clear hr hs
 go_enter func41,ntmps41
 go_wp2
 go_loop [0] (fun t=>∃k:Nat,k<=(8-l.length%8)%8/\t=.string ⟨(l++List.replicate k 48).toArray⟩) (fun t=>l.length+8-VI t)
 case atStart=>exact⟨0,Ds _,by simp⟩
 case round=>
  obtain⟨k,G,rfl⟩:=hrel;by_cases h:k<(8-l.length%8)%8
  ·go_wp2
   go_round
   case rel=>exact⟨k+1,by omega,by rw[TC]⟩
   case measure=>simp only[VI,TC,HX,B9,Bl];omega
  ·obtain rfl:k=(8-l.length%8)%8:=by omega
   obtain⟨p,m⟩:=Ah (HV l);have n:AL p=true:=by rw[<-m];exact Yq l R.out
   have c:p.length=l.length+(8-l.length%8)%8:=by rw[<-m];exact SD l
   have d:BM l=HW p (p.length / 8):=by unfold BM;rw[m]
   have F:=Dp d;have H:=Dp n;have I:p.length%8=0:=by omega
   have J:p.length<=1073741831:=by omega
   have ht:(((p.length:Nat):Int)%8 != 0)=false:=by rw[I9];omega
   rw[show l++List.replicate ((8-l.length%8)%8) 48=p from m];clear d n m h G c hl R
   go_wp2
   go_loopw [3,4] (fun v i wr=>∃j:Nat,8*j<=p.length/\i=.int .i64 ((8*j:Nat):Int)/\DU wr B 5 v (HW p j)/\Below B w wr) (fun _ i _=>p.length-(RowKit.intOf i).toNat)
   case atStart=>exact⟨0,Ds _,rfl,DU.nil _ _ _,Dq _ _⟩
   case round=>
    obtain⟨j,hj,rfl,a,u⟩:=hrel;by_cases h:8*j<p.length
    ·have A:=eQ p j (by omega);have C:AL ((⟨p.toArray⟩:ByteArray).extract (8*j) (8*j+8)).data.toList=true:=by rw[Xf];exact FR _ _ (I1 _ _ H.out)
     have c:=bV p j;have L:=Dp c;have K:=Dp A;have M:=Dp C;have N:=u.size;clear A C c
     go_wp2_with fail
     refine(oP _ K.out M.out _).mono ?_;rintro e x ⟨y,rfl,rfl,O,Y⟩;have E:=Dp (yU y O)
     go_wp2_with (at_builtin;refine Yb (b:=UInt8.ofNat y) rfl rfl Dw hi o q r rfl (a.alloc _) rfl ?c1 ?c2 ?c3 ?_;(case c1=>(rw[E.out];go_cell));(case c2=>(rw[L.out];omega));(case c3=>(simp;omega));intro Q S f g)
     have hn:HW p (j+1)=HW p j++[UInt8.ofNat y]:=by rw[HW,<-Y.out,Xf]
     go_roundw
     case rel=>exact⟨j+1,by omega,by go_num,by rw[hn];exact f,(u.alloc (by omega) _).grown g (by simp;omega) (X7 a)⟩
     case measure=>simp[RowKit.intOf];omega
    ·obtain rfl:j=p.length / 8:=by omega
     have ht:=DU.text Dw Dy Dx a
     go_wp2
     go_ret
     exact⟨pO F.out.symm,u⟩
end
end Go.Proofs.YtjjmalchelniiaaGreatDoor
