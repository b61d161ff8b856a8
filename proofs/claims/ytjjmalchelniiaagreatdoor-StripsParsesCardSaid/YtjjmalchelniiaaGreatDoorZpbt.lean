/- No condition. -/
import Derived.Test.YtjjmalchelniiaaGreatDoorZpa
import Derived.Test.YtjjmalchelniiaaGreatDoorZpi
import Derived.Test.YtjjmalchelniiaaGreatDoorZpl
import Derived.Test.YtjjmalchelniiaaGreatDoorZpn
import Derived.Test.YtjjmalchelniiaaGreatDoorZpo
import Derived.Test.YtjjmalchelniiaaGreatDoorZpx
import Derived.Test.YtjjmalchelniiaaGreatDoorZpy
import Derived.Test.YtjjmalchelniiaaGreatDoorZpbn
import Derived.Test.YtjjmalchelniiaaGreatDoorZpbp
import Derived.Test.YtjjmalchelniiaaGreatDoorZpbq
import Derived.Test.YtjjmalchelniiaaGreatDoorZpbr
import Derived.Test.YtjjmalchelniiaaGreatDoorZpbs
open Go.Proofs.Tryz
open Go renaming World->A5,Value->A0,TypeId->A7,Calls->A9
set_option maxHeartbeats 8000000
namespace Go.Proofs.YtjjmalchelniiaaGreatDoor
section
open Go.RowKit
theorem Wae{p:Prop}(h:p:=by rw[e];exact Df.2 rfl):p:=h
theorem Waf{p:Prop}(h:p:=by have e:=Df.1 hm;injection e with e;omega):p:=h
theorem Wag{p:Prop}(h:p:=by injection hj with hj;omega):p:=h
theorem Wah{p:Prop}(h:p:=by rw[<-q];exact AA (cs:=[.int .i64 c.mx,.int .i64 c.my]) (heap_alloc_new s _) rfl):p:=h
theorem Wai{p:Prop}(h:p:=by rw[Df.1 hm];exact Ez ..):p:=h
theorem Waj{p:Prop}(h:p:=by rw[Df.1 hm];exact Ey _ (Ez ..)):p:=h
theorem Wak{p:Prop}(h:p:=by rw[Df.1 hm];exact Ey _ (Ey _ (Ez ..))):p:=h
theorem Wal{p:Prop}(h:p:=by cases hj):p:=h
theorem eM {inter:Bool}{k first:Int}:∀(cs:List Cel) (vs:List (Int×Int)),cs.all (CC inter)=true->(GN inter k first vs cs).length<=20000*cs.length
 |[],_,_=>B9 _
 |c::cs,vs,h=>by
  rw[Gt,Al] at h;rw[GN,B8,An];have h1:=Yk h.1 (CY vs (AY k) first).1 (CY vs (AY k) first).2;have h2:=eM (k:=k) (first:=first) cs (vs++[(c.mx,c.my)]) h.2;omega
theorem gP (i p:Nat)(r:RowP):(FN i p r).length<=36:=by
 unfold FN;cases r.head with
 |true=>
  rw[Bb rfl,lB];unfold gap;omega
 |false=>exact Do _
theorem bJ {inter:Bool}{k:Int}{N M:Nat}(a:36+20000*N<=M):∀(rs:List RowP) (i p:Nat) (vs:List (Int×Int)) (first:Int),AV (FJ inter (N:Int)) i rs=true->(FD inter k i p vs first rs).length<=M*rs.length
 |[],_,_,_,_,_=>Do _
 |r::rs,i,p,vs,first,h=>by
  rw[AV,Al] at h;have hr:=h.1;unfold FJ at hr;rw[Al,Fg,Al] at hr;obtain⟨hc,-,b⟩:=hr;rw[FD];have h1:=gP i p r;have h2:=eM (k:=k) (first:=F1 k i first r) r.cels vs b;have h3:=bJ (k:=k) a rs (i+1) (p+(FN i p r).length+(GN inter k (F1 k i first r) vs r.cels).length) (vs++CP r.cels) (F1 k i first r) h.2;rw[B8,B8,An,Nat.mul_succ];have c:r.cels.length=N:=sX;rw[c] at h2;omega
theorem Sz {S:ShP}(h:DG S=0):GG S.hd=true/\(0<=S.zeros/\S.zeros<=262144)/\((S.rows.length:Int)=BE S.hd.fmt/\S.rows.length<=18)/\∃N:Nat,BN S.hd.fmt=(N:Int)/\(0<N/\N<=352)/\AV (FJ S.hd.inter (N:Int)) 0 S.rows=true:=by
 obtain⟨h1,-⟩:=XB h;unfold HE at h1;simp only[Al,Fg] at h1;obtain⟨hm,b,hn,hr⟩:=h1;have c:=(LL.1 hm).2.1;have hk:0<BN S.hd.fmt/\BN S.hd.fmt<=352/\BE S.hd.fmt<=18:=by
  have a:S.hd.fmt=1\/S.hd.fmt=2\/S.hd.fmt=3\/S.hd.fmt=4\/S.hd.fmt=5\/S.hd.fmt=6:=sX;rcases a with a|a|a|a|a|a <;> rw[a] <;> decide +kernel
 refine⟨hm,b,⟨hn,sX⟩,(BN S.hd.fmt).toNat,sX,sX,?_⟩;rw[Ce sX];exact hr
theorem fA {S:ShP}(h:DG S=0)(r:List UInt8):(HZ r S).length<=r.length+130000000:=by
 obtain⟨hm,-,⟨-,a⟩,N,-,b,hr⟩:=Sz h;have c:=(LL.1 hm).2.2.1;have h1:=bJ (k:=S.hd.fmt) (N:=N) (M:=7040036) sX S.rows 0 (IU r S).length [] 0 hr;have h2:7040036*S.rows.length<=7040036*18:=Nat.mul_le_mul_left _ a;unfold HZ LW;generalize FD S.hd.inter S.hd.fmt 0 (IU r S).length [] 0 S.rows=d at *;rw[B8,RW,B8,JG,SC];unfold gap;omega
theorem Qgj {S:ShP}(h:DG S=0)(r:List UInt8):(GD r S).length<=r.length+134217728:=by
 obtain⟨-,a,-,-⟩:=Sz h;have h1:=fA h r;rw[Ui];simp only[B8,Bp];unfold gap;omega
theorem eR {inter:Bool}{k first:Int}:∀(cs:List Cel) (vs:List (Int×Int)),AH (GN inter k first vs cs)=true
 |[],_=>rfl
 |c::cs,vs=>by rw[GN,D7,Qad,eR cs];rfl
theorem WF {inter:Bool}{k:Int}:∀(rs:List RowP) (i p:Nat) (vs:List (Int×Int)) (first:Int),AH (FD inter k i p vs first rs)=true
 |[],_,_,_,_=>rfl
 |r::rs,i,p,vs,first=>by
  rw[FD,D7,D7,eR,WF rs];unfold FN;cases r.head with
  |true=>rw[Bb rfl,Y5p];rfl
  |false=>rfl
theorem Y38 (p:Nat)(S:ShP):AH (EC p S)=true:=by
 unfold EC LW KG;rw[D7,D7,D7,D7,bC,sM,WF,Ri,Ri];rfl
end
section
open Go.RowKit Go.Lib
section
variable {w z:A5}{B b:Nat}{r:List UInt8}
theorem PO {g c:Nat}{cs b:Array A0}{T d:A7}(h:w.heap[g]? =some (.cells cs T (0,0)))(a:w.heap[c]? =some (.cells b d (0,0)))(e:T≠d):g≠c:=by
 rintro rfl;rw[h] at a;injection a with a;injection a with _ a;exact e a
theorem H4.typed (hk:∀(g:Nat) (cs:Array A0),w.heap[g]? =some (Obj.cells cs 116 (0,0))->z.heap[g]? =some (Obj.cells cs 116 (0,0))):∀{k:Nat} {v:A0},H4 w B r k v->H4 z B r k v
 |0,_,c=>c
 |_+1,_,⟨g,v',e,hg,hh,c⟩=>⟨g,v',e,hg,hk g _ hh,c.typed hk⟩
theorem AN.typed (h:AN w B b r)(hk:∀(g:Nat) (cs:Array A0) (T:A7),(T=111\/T=116)->w.heap[g]? =some (Obj.cells cs T (0,0))->z.heap[g]? =some (Obj.cells cs T (0,0))):AN z B b r:=by
 obtain⟨h1,h2,v,h3,h4⟩:=h;exact⟨h1,h2,v,hk _ _ _ (.inl rfl) h3,h4.typed fun g cs a=>hk g cs _ (.inr rfl) a⟩
theorem S9 {base e c n j:Nat}{v:A0}{b:List A0}(h:w.ownsRow base e c v n b)(hj:v.ownBlock=some j):∃a,w.heap[j]? =some (.cells a e (0,0)):=by
 rcases h.2 with ⟨rfl,_⟩|⟨g,cap,a,rfl,_,d,_⟩
 ·cases hj
 ·injection hj with hj;exact⟨a,hj▸d⟩
end
structure Yhy (w:A5) (W S V A b B:Nat) (r:List UInt8) (zs:List A0) (k:Int) (vv:A0) (vs:List (Int×Int)):Prop where
 bw:w.heap[W]? =some (.cells [.pointer (some ⟨b,0,none⟩)].toArray 66 (0,0))
 bs:w.heap[S]? =some (.cells zs.toArray 39 (0,0))
 bv:w.heap[V]? =some (.cells [vv].toArray 98 (0,0))
 ba:w.heap[A]? =some (.cells [.int .i64 (AY k)].toArray 3 (0,0))
 wr:AN w B b r
 vec:w.ownsRow 0 73 2 vv vs.length (GY vs)
section
variable {w z:A5}{W S V A b B:Nat}{r r':List UInt8}{zs:List A0}{k:Int}{vv vv':A0}{vs:List (Int×Int)}
theorem Yhy.block {g:Nat}{cs:Array A0}{T:A7}{L:List (Option Nat)}(h:w.heap[g]? =some (.cells cs T (0,0)))(hg:Yah L w z)(a:some g∉L):z.heap[g]? =some (.cells cs T (0,0)):=
 (hg.block g (Am.1 h).1 a).trans h
theorem Yhy.below (h:Yhy w W S V A b B r zs k vv vs)(a:Below w.heap.size w z):Yhy z W S V A b B r zs k vv vs where
 bw:=Yhy.block h.bw (Yah.below (L:=[]) a) sV
 bs:=Yhy.block h.bs (Yah.below (L:=[]) a) sV
 bv:=Yhy.block h.bv (Yah.below (L:=[]) a) sV
 ba:=Yhy.block h.ba (Yah.below (L:=[]) a) sV
 wr:=h.wr.below a
 vec:=lN h.vec a
theorem AN.block {w:A5}{B b:Nat}{r:List UInt8}(h:AN w B b r):∃cs,w.heap[b]? =some (.cells cs 111 (0,0)):=by
 obtain⟨-,-,v,h3,-⟩:=h;exact⟨_,h3⟩
theorem Yhy.wrote (h:Yhy w W S V A b B r zs k vv vs)(hg:w.grownBy z (some b))(i:AN z B b r'):Yhy z W S V A b B r' zs k vv vs:=by
 obtain⟨cs,hc⟩:=h.wr.block;have a:∀{g:Nat} {c:Array A0} {T:A7},T≠111->w.heap[g]? =some (.cells c T (0,0))->z.heap[g]? =some (.cells c T (0,0)):=fun l f=>
  (hg.block _ (Am.1 f).1 fun e=>by injection e with e;exact PO f hc l e).trans f
 exact{
  bw:=a sY h.bw
  bs:=a sY h.bs
  bv:=a sY h.bv
  ba:=a sY h.ba
  wr:=i
  vec:=MX h.vec (M:=[some b]) (Yah.one hg fun j _ e=>Wae) fun j hj hm=>by
   have e:=Df.1 hm;injection e with e;obtain⟨m,d⟩:=S9 h.vec hj;exact PO d hc sY e}
theorem Yhy.more {v:Int×Int}(h:Yhy w W S V A b B r zs k vv vs)(hg:w.grownBy z vv.ownBlock)(ho:z.ownsRow 0 73 2 vv' (vs.length+1) (GY vs++[.int .i64 v.1,.int .i64 v.2])):
  Yhy (z.setCell ⟨V,0,none⟩ vv') W S V A b B r zs k vv' (vs++[v]):=by
 have c:∀{g:Nat} {d:Array A0} {T:A7},T≠73->w.heap[g]? =some (.cells d T (0,0))->z.heap[g]? =some (.cells d T (0,0)):=fun l i=>
  (hg.block _ (Am.1 i).1 fun e=>by
   obtain⟨m,f⟩:=S9 h.vec e.symm;exact PO i f l rfl).trans i
 have n:=c sY h.bv;have hs:z.grownBy (z.setCell ⟨V,0,none⟩ vv') (some V):=D3 z ⟨V,0,none⟩ vv';have a:∀{g:Nat} {d:Array A0} {T:A7},T≠98->z.heap[g]? =some (.cells d T (0,0))->(z.setCell ⟨V,0,none⟩ vv').heap[g]? =some (.cells d T (0,0)):=fun l i=>
  (hs.block _ (Am.1 i).1 fun e=>by injection e with e;exact PO i n l e).trans i
 exact{
  bw:=a sY (c sY h.bw)
  bs:=a sY (c sY h.bs)
  bv:=B3 (o:=0) vv' n
  ba:=a sY (c sY h.ba)
  wr:=h.wr.typed fun g cs T l i=>by
   rcases l with rfl|rfl
   ·exact @a _ _ 111 sY (@c _ _ 111 sY i)
   ·exact @a _ _ 116 sY (@c _ _ 116 sY i)
  vec:=by
   rw[B8,Wz];exact MX ho (M:=[some V]) (Yah.set _ (Df.2 rfl)) fun j hj hm=>by
    have e:=Df.1 hm;injection e with e;obtain⟨m,f⟩:=S9 ho hj;exact PO f n sY e}
end
section
variable {u w:A5}{W S V A b B n m ca cb:Nat}{r:List UInt8}{zs:List A0}{k:Int}{vv:A0}{vs:List (Int×Int)}
set_option maxRecDepth 100000 in
theorem iA (hd:Shd)(p q:Option Addr)(z:Int)(U:AN w B b r):
  A9 prog 104 #[.pointer (some ⟨b,0,none⟩),.agg (AU hd (.slice p n ca) (.slice q m cb) z).toArray] w fun e O=>∃W S V A,e=.returned (.func (.func 138) #[] #[.pointer (some ⟨W,0,none⟩),.pointer (some ⟨S,0,none⟩),.pointer (some ⟨V,0,none⟩),.pointer (some ⟨A,0,none⟩)])/\
   Yhy O W S V A b B r (AU hd (.slice p n ca) (.slice q m cb) z) hd.fmt (.slice none 0 0) []/\Below w.heap.size w O/\w.heap.size<=W/\w.heap.size<=S/\w.heap.size<=V/\w.heap.size<=A:=by
 have X:∀(P:Fn) (first cap:Array A0) (w:A5),(Instr.makeFunc P first cap).run prog w=.ok (.func P first cap) w:=fun _ _ _ _=>rfl;obtain⟨zs,y⟩:=Ah (AU hd (.slice p n ca) (.slice q m cb) z);have Y:zs[2]? =some (.int .i64 hd.fmt):=by rw[<-y];rfl
 rw[y];have Z:=fun x=>QO hd.fmt x;generalize hd.fmt=k at *;obtain⟨R,w1,w2,C,f,g,D,h,i,c,j⟩:=JT w (.cells #[.pointer (some ⟨b,0,none⟩)] 66 (0,0)) (.cells zs.toArray 39 (0,0));have k2:=AA (o:=2) c Y;obtain⟨aa,w3,Q,E,l,s,F,G,t,u,a⟩:=JT w2 (.cells #[.int .i64 (AY k)] 3 (0,0)) (.cells #[.slice none 0 0] 98 (0,0));obtain rfl:aa=R+2:=sX;have d:Below R w Q:=j.trans (a.mono sX);have v:Yhy Q R (R+1) (R+3) (R+2) b B r zs k (.slice none 0 0) []:={
  bw:=(a.block R sX).trans i
  bs:=(a.block (R+1) sX).trans c
  bv:=u
  ba:=t
  wr:=U.below (C▸d)
  vec:=Dj ..}
 have H:=Dm f;have I:=Dm g;have J:=Dm l;have K:=Dm s;have T:=Dm C;have L:=Dm h;have M:=Dm v;have N:=Dm d;clear v d i c t u j a f g l s C E D h F G y
 go_enter func104,ntmps104
 go_wp2_with fail
 rw[H.out,I.out,T.out];refine(Z _).mono ?_;rintro e x ⟨rfl,rfl⟩
 go_wp2
 rw[J.out,K.out,L.out]
 go_ret
 rw[T.out];exact⟨R,R+1,R+3,R+2,rfl,M.out,N.out,sX,sX,sX,sX⟩
set_option maxRecDepth 100000 in
theorem Qg1 {c:Cel}{cs:List A0}{inter:Bool}{first:Int}(h:Yhy w W S V A b B r zs k vv vs)(N:zs[3]? =some (.bool inter))(hu:Below u.heap.size u w)(hN:u.heap.size<=b)(hB:B<=w.heap.size)(ht:Ybt u.heap.size u)
  (hc:JM u c cs)(O:∀i,i<6->(c.ev i).length<=1048576)(hm:CC inter c=true)(hr:r.length<=60000000000)(hn:vs.length<=1048575)(hk:AY k<=1000):
  A9 prog 138 #[.agg cs.toArray,.int .i64 first,.pointer (some ⟨W,0,none⟩),.pointer (some ⟨S,0,none⟩),.pointer (some ⟨V,0,none⟩),.pointer (some ⟨A,0,none⟩)] w fun e P=>e=.returned (.tuple #[])/\
   ∃vv',Yhy P W S V A b B (r++E4 inter (CY vs (AY k) first).1 (CY vs (AY k) first).2 c) zs k vv' (vs++[(c.mx,c.my)])/\Yah [some b,some V,vv.ownBlock] w P/\∀j,vv'.ownBlock=some j->vv.ownBlock=some j\/w.heap.size<=j:=by
 obtain⟨Q,d,ah,R⟩:=Uy rfl h.vec;subst ah;obtain⟨p,cap,f,ai,he⟩:=hc;have T:IF u c p fun i=>(c.ev i).length:=fun i hi=>⟨rfl,O i hi,(he i hi).2⟩;obtain⟨Z,U⟩:=Ah cs.toArray;have aj:(prog.info? 77).map (·.size)=some Z.size:=by rw[<-U,f];exact Rm ..
 obtain⟨C,I⟩:=Ah w.heap.size;obtain⟨w0,g⟩:=Ah (w.alloc (.cells Z 77 (0,0)));have l:Below w.heap.size w w0:=by rw[<-g];exact(Dn _ w).alloc (B9 _) _
 have ak:w0.heap[C]? =some (.cells Z 77 (0,0)):=by rw[<-g,<-I];exact heap_alloc_new w _
 have a0:w0.heap.size=C+1:=by rw[<-g,<-I];simp
 have D:=h.below l;have X:=R.mono l;have m:Below u.heap.size u w0:=hu.trans (l.mono hu.size);have a1:b<C:=by rw[<-I];exact h.wr.lt
 have a2:V<C:=by rw[<-I];exact(Am.1 h.bv).1
 obtain⟨⟨J,K⟩,E⟩:=Ah (CY vs (AY k) first);have a3:=Dm (fun(x:A5) (a:Below w0.heap.size w0 x)=>(ZF (fun i=>vs.getD i (0,0)) Q vs.length d (AY k) first x (X.mono a) tK sX).mono fun e y (z:LS _ x e y)=>
  (⟨by rw[z.1,show KR (fun i=>vs.getD i (0,0)) vs.length (AY k) first=(J,K) from E];rfl,a.trans (z.2.mono a.size)⟩:e=.returned (.agg #[.int .i64 J,.int .i64 K])/\Below w0.heap.size w0 y))
 have Y:∀x,Below w0.heap.size w0 x->∀z,x.grownBy z (some b)->Below u.heap.size u z:=fun x a z hz=>(m.trans (a.mono m.size)).grown hz (m.trans (a.mono m.size)).size (fun j hj=>Wag);have av:=Dm (fun(x:A5) (a:Below w0.heap.size w0 x)=>(by
  have h1:=Qok inter J K c p (fun i=>(c.ev i).length) cap B b r x (D.below a).wr sX Wab (fun z hz=>by
   have hk:=Y x a z hz;have h:=ht.below hk;exact⟨Ybt.here h.pats h.mvd h.steps h.tcoef,T.below hk⟩) hm
  rw[<-f,U] at h1;exact h1:A9 prog 139 #[.pointer (some ⟨b,0,none⟩),.bool inter,.agg #[.int .i64 J,.int .i64 K],.agg Z] x fun e P=>e=.returned (.int .i64 0)/\AN P B b (r++E4 inter J K c)/\x.grownBy P (some b)))
 have a4:=Dm (fun(x:A5) (a:Below w0.heap.size w0 x)=>AA (o:=0) (D.below a).bw rfl);have a5:=Dm (fun(x:A5) (a:Below w0.heap.size w0 x)=>AA (o:=3) (D.below a).bs N);have a6:=Dm (fun(x:A5) (a:Below w0.heap.size w0 x)=>AA (o:=0) (D.below a).bv rfl);have a7:=Dm (fun(x:A5) (a:Below w0.heap.size w0 x)=>AA (o:=0) (D.below a).ba rfl);have aw:=Dm (fun(x:A5) (a:Below w0.heap.size w0 x)=>((a.block C sX).trans ak:x.heap[C]? =some (.cells Z 77 (0,0))));have a8:=Dm D;have al:=Dm g;have ax:=Dm I;have aa:=Dm l;have v4:cs[4]? =some (.int .i64 c.mx):=by rw[f];rfl
 have v5:cs[5]? =some (.int .i64 c.my):=by rw[f];rfl
 have a9:=Dm U;have ba:=Dm v4;have bb:=Dm v5;have am:=(Dn w0.heap.size w0).drew;obtain⟨bh,ab⟩:=Ah (E4 inter J K c);rw[E,ab,U];rw[ab] at av;clear h N hu O hm hr ai he T f U I g l R X m E Y D v4 v5 hk ht hN hB
 go_enter func138,ntmps138
 go_upto_region 1 with fail
 rw[al.out,ax.out];refine E1 (S:=fun x=>Below w0.heap.size w0 x) 8 tN tN am ?_;simp only[Dq,Bk,Gp,Gq];refine B4 66 _ ⟨W,0,none⟩ (.pointer (some ⟨b,0,none⟩)) tN rfl rfl (fun x a=>by have c0:=a4.out x a;go_simp) ?_;simp only[A1];refine AQ ?_;simp only[A1];refine B4 4 _ ⟨S,3,none⟩ (.bool inter) tN rfl rfl (fun x a=>by have c0:=a5.out x a;go_simp) ?_;simp only[A1];refine B4 98 _ ⟨V,0,none⟩ (.slice Q vs.length d) tN rfl rfl (fun x a=>by have c0:=a6.out x a;go_simp) ?_;simp only[A1];refine B4 3 _ ⟨A,0,none⟩ (.int .i64 (AY k)) tN rfl rfl (fun x a=>by have c0:=a7.out x a;go_simp) ?_;simp only[A1];refine AQ ?_;simp only[A1];refine C2 tN a3.out (fun _=>tN) ?_;simp only[A1];refine NG 77 _ C 77 Z (0,0) _ tN rfl rfl (fun x a=>aw.out x a) Io rfl aj ?_;simp only[A1];refine DX fun x a=>?_
 go_wp2_with fail
 refine(av.out _ a).mono ?_;rintro e s ⟨rfl,ac,n⟩;have h2:=(a8.out.below a).wrote n ac;have t:=(n.block C Wab (fun e=>vF)).trans (aw.out _ a);have an:s.rangeAt C 4 [.int .i64 c.mx,.int .i64 c.my]:=fun j v hj=>by
  rw[<-a9.out] at t
  match j,hj with
  |0,hj=>injection hj with hj;subst hj;exact AA t ba.out
  |1,hj=>injection hj with hj;subst hj;exact AA t bb.out
 have kv:=AA (o:=0) h2.bv rfl;obtain⟨ti,j0,j1,j2,j3⟩:=VP;have ao:=h2.vec;obtain⟨wP,q⟩:=Ah (s.alloc (.cells #[.int .i64 c.mx,.int .i64 c.my] 73 (0,0)));have F:Below s.heap.size s wP:=by rw[<-q];exact(Dn _ s).alloc (B9 _) _
 have hP:=h2.below F;have ad:=hP.vec;have c0:wP.cell? ⟨s.heap.size,0,none⟩=some (.int .i64 c.mx):=Wah;have c1:wP.cell? ⟨s.heap.size,1,none⟩=some (.int .i64 c.my):=Wah;have ay:C+1<=s.heap.size:=by have:=a.size;have:=n.size;omega
 have bc:=Dm h2;have ap:=Dm n;have bd:=Dm a;have ag:=Dm hP;have ae:=Dm F;have aq:=Dm q;clear q h2 n a hP F ao t ac
 go_wp2_with (first|(with_reducible refine YZ rfl _ rfl C 4 rfl c.mx c.my an ?_)|(at_builtin;rw[aq.out];refine eD (v:=.slice Q vs.length d) (y0:=c.mx) (y1:=c.my) rfl rfl underlying98 j0 j1 rfl j2 j3 rfl ad rfl ?c1 ?c2 ?c3 ?_;(case c1=>exact c0);(case c2=>exact c1);(case c3=>omega);intro q8 az w8 ar G au;have H:=(G.block V (Am.1 ag.out.bv).1 (fun e=>by obtain⟨bf,af⟩:=S9 ad e.symm;exact PO ag.out.bv af (by decide) rfl)).trans ag.out.bv;have bg:=AA (o:=0) H rfl;have f8:w8.frozen? ⟨V,0,none⟩=false:=AL H;clear H))
 go_end0
 refine⟨rfl,_,ag.out.more (v:=(c.mx,c.my)) G ar,?_,?_⟩
 ·have g1:Yah [some b,some V,(Value.slice Q vs.length d).ownBlock] w x:=Yah.below (aa.out.trans (bd.out.mono aa.out.size));have g2:=g1.trans (M:=[some b]) (Yah.one ap.out fun j _ e=>Wae) fun j _ hm=>Wai;have g3:=g2.trans (Yah.below (L:=[]) ae.out) sV;have g4:=g3.trans (M:=[(Value.slice Q vs.length d).ownBlock]) (Yah.one G fun j _ e=>Wae) fun j _ hm=>Wak;exact g4.trans (M:=[some V]) (Yah.set _ (Df.2 rfl)) fun j _ hm=>Waj
 ·intro j hj;rcases au j hj with h|h
  ·exact .inl h
  ·exact .inr (by have:=ae.out.size;have:=ax.out;omega)
end
theorem Qf8 {i:Nat}(k:Int)(hi:i<=1000):IntKind.i64.wrap ((i:Int)*BQ k)=(i:Int)*BQ k:=by
 obtain⟨c,d,a,b,e⟩:=OU k;have h1:0<=(i:Int)*BQ k:=Lj sX a;have h2:(i:Int)*BQ k<=1000*100:=Int.mul_le_mul sX b a sX;exact CE sX
theorem mB {inter:Bool}{N:Nat}{rs:List RowP}(h:AV (FJ inter (N:Int)) 0 rs=true){i:Nat}(hi:i<rs.length):
  rs[i].cels.length=N/\(∀c∈rs[i].cels,CC inter c=true)/\(rs[i].head=true->i≠0/\∃a q:Nat,rs[i].id=(a:Int)/\rs[i].quant=(q:Int)/\a<=3/\1<=q/\q<=31):=by
 have h1:=OQ.1 h i hi;rw[Ar] at h1;unfold FJ at h1;rw[Al,Fg,Al] at h1;obtain⟨hc,b,d⟩:=h1;refine⟨sX,Bw.1 d,fun hd=>?_⟩;rw[hd,Bb rfl,Fg] at b;exact⟨b.1,rs[i].id.toNat,rs[i].quant.toNat,sX,sX,sX,sX,sX⟩
theorem kR {inter:Bool}{k:Int}{rs:List RowP}(i:Nat)(R:List UInt8)(vs:List (Int×Int))(first:Int)(hi:i<rs.length):
  GW inter k i R vs first (rs.drop i)=GW inter k (i+1) (JC inter k (F1 k i first rs[i]) (R++FN i R.length rs[i]) vs rs[i].cels) (vs++CP rs[i].cels) (F1 k i first rs[i]) (rs.drop (i+1)):=by
 rw[Fl hi];exact pJ ..
set_option maxRecDepth 100000 in
theorem pM {u w:A5}{B b:Nat}{r:List UInt8}{N:Nat}(S:ShP)(p q:Option Addr)(ca cb:Nat)(hS:HU u q S.rows)(ht:Ybt u.heap.size u)(hu:Below u.heap.size u w)(hN:u.heap.size<=b)(hB:B<=w.heap.size)(hw:AN w B b r)
  (ce:S.rows.length<=18)(dz:0<N/\N<=352)(hm:AV (FJ S.hd.inter (N:Int)) 0 S.rows=true)(a9:∀c∈FA S,∀k,k<6->(c.ev k).length<=1048576)(g:(GW S.hd.inter S.hd.fmt 0 r [] 0 S.rows).length<=60000000000):
  A9 prog 72 #[.pointer (some ⟨b,0,none⟩),.agg (AU S.hd (.slice p S.hd.supp.length ca) (.slice q S.rows.length cb) S.zeros).toArray] w fun e w'=>e=.returned (.tuple #[])/\AN w' B b (GW S.hd.inter S.hd.fmt 0 r [] 0 S.rows)/\w.grownBy w' (some b):=by
 have cf:=fun x=>SP S.hd.fmt x;have cg:AY S.hd.fmt<=1000:=by have:=(HY S.hd.fmt).1;have:=(OU S.hd.fmt).2.2.2.2;omega
 have wm:=fun(i:Nat) (hi:i<=1000)=>Qf8 S.hd.fmt hi;have rm:=fun(i:Nat) (hi:i<S.rows.length)=>mB hm hi;have ba:=fun(i:Nat) (hi:i<S.rows.length) c (hc:c∈S.rows[i].cels)=>a9 c (Pe.2 ⟨_,Bl hi,hc⟩);have bb:=fun(i:Nat) (R:List UInt8) (vs:List (Int×Int)) (first:Int) (hi:i<S.rows.length)=>kR (inter:=S.hd.inter) (k:=S.hd.fmt) i R vs first hi
 have aj:=fun(R:List UInt8) (vs:List (Int×Int)) (first:Int)=>(show GW S.hd.inter S.hd.fmt S.rows.length R vs first (S.rows.drop S.rows.length)=R by rw[List.drop_length];exact Qb8 ..);obtain⟨T,hT⟩:=Ah (GW S.hd.inter S.hd.fmt 0 r [] 0 S.rows);rw[hT] at g ⊢;have bc:GW S.hd.inter S.hd.fmt 0 r [] 0 (S.rows.drop 0)=T:=hT;have bd:∀(i:Nat) (R:List UInt8) (vs:List (Int×Int)) (first:Int) (rs:List RowP),GW S.hd.inter S.hd.fmt i R vs first rs=T->R.length<=60000000000:=fun i R vs first rs h=>by
  rw[<-h] at g;unfold GW at g;rw[B8] at g;omega
 have pc:=fun(x:A5) (R:List UInt8) (z:AN x B b R)=>iA (w:=x) (n:=S.hd.supp.length) (m:=S.rows.length) (ca:=ca) (cb:=cb) S.hd p q S.zeros z;obtain⟨zs,hZ⟩:=Ah (AU S.hd (.slice p S.hd.supp.length ca) (.slice q S.rows.length cb) S.zeros);have z2:zs[2]? =some (.int .i64 S.hd.fmt):=zY;have z3:zs[3]? =some (.bool S.hd.inter):=zY;have z6:zs[6]? =some (.slice q S.rows.length cb):=zY;have bf:(prog.info? 39).map (·.size)=some zs.toArray.size:=zW;rw[hZ] at pc ⊢;obtain⟨D,hD⟩:=Ah w.heap.size;obtain⟨w1,E⟩:=Ah (w.alloc (.cells zs.toArray 39 (0,0)));have ab:Below w.heap.size w w1:=by rw[<-E];exact(Dn _ w).alloc (B9 _) _
 have ch:w1.heap.size=D+1:=by rw[<-E,<-hD];simp
 have au:w1.heap[D]? =some (.cells zs.toArray 39 (0,0)):=by rw[<-E,<-hD];exact heap_alloc_new w _
 have ak:=hw.below ab;have d0:b<D:=by rw[<-hD];exact hw.lt
 obtain⟨dr,bg,d1⟩:=RF;obtain⟨ds,ci,d2⟩:=NX;have d3:u.heap.size<=D:=by rw[<-hD];exact hu.size
 have U:=Dm (fun(x:A5) (z:Yah [some b] w x)=>((hu.trans (z.under (N:=u.heap.size) sX fun k hk=>by have e:=Df.1 hk;injection e with e;omega)):Below u.heap.size u x));generalize d4:S.hd.fmt=k at *;generalize d5:S.hd.inter=inter at *;obtain⟨n,av⟩:=Ah S.rows.length;rw[av] at ce;have k2:=AA (o:=2) au z2;have k6:∀x,Below w1.heap.size w1 x->x.cell? ⟨D,6,none⟩=some (.slice q n cb):=fun x z=>by rw[<-av];exact AA ((z.block D (by omega)).trans au) z6
 have cj:=Dm E;have b9:=Dm hD;have ck:=Dm av;have cl:=Dm hS;have cm:=Dm bc;have eh:=Dm k6;have bh:=Dm bd;have d6:=Dm bb;have bi:=Dm aj;have d7:=Dm rm;have cn:=Dm ba;have d8:=Dm wm;have co:=Dm ht;have dt:=Dm hB;have d9:=Dm z3;have ea:=Dm ab;have al:Yah [some b] w w1:=Yah.below ab;clear hZ E hD hS bc bd bb aj rm ba wm ht hB z2 z3 z6 hu hm a9 g hT ab hw
 go_enter func72,ntmps72
 go_wp2_with (with_reducible refine Nk rfl 39 _ rfl _ rfl 39 zs.toArray (0,0) _ (heap_alloc_new w _) Oz rfl bf ?_)
 rw[cj.out,b9.out];refine(pc _ _ ak).mono ?_;rintro e w2 ⟨W,cc,V,A,rfl,bj,F,l1,l2,l3,l4⟩;have cp:=(G4 (a:=⟨D,2,none⟩) (F.block D sX)).trans k2;have cq:=k6 _ F;have bk:Yah [some b] w w2:=al.trans (Yah.below (L:=[]) F) sV;have cr:D<w2.heap.size:=by have:=F.size;omega
 have ei:=Dm (fun(x:A5) (z:Yah [some b] w2 x)=>((z.block D cr (fun hm=>Waf)):x.heap[D]? =w2.heap[D]?));have eb:Hid (D<=W/\D<=cc/\D<=V/\D<=A):=Dm sX;clear k2 k6 au pc ak al F l1 l2 l3 l4 ch
 go_wp2_with fail
 refine(cf _).mono ?_;rintro e x ⟨rfl,rfl⟩
 go_wp2
 go_loopw [7,24] (fun f t wr=>∃(i:Nat) (first:Int) (vv:A0) (vs:List (Int×Int)) (R:List UInt8),f=.int .i64 first/\t=.int .i64 (i:Int)/\i<=n/\Yhy wr W cc V A b B R zs k vv vs/\Hid (GW inter k i R vs first (S.rows.drop i)=T)/\Yah [some b] w wr/\(∀j,vv.ownBlock=some j->D<=j)/\Hid (vs.length<=1000*i)) (fun _ t _=>n-(RowKit.intOf t).toNat)
 case atStart=>exact⟨0,0,_,[],r,rfl,rfl,Do _,bj,cm,bk,(fun j hj=>Wal),Dm (Do _)⟩
 case round=>
  clear bj bk cp cq;obtain⟨i,first,vv,vs,R,rfl,rfl,hi,hp,hT,hg,l,bl⟩:=hrel;by_cases ct:i<n
  ·have t1:decide ((i:Int)<(n:Int))=true:=sU;have ac:i<S.rows.length:=by rw[ck.out];exact ct
   obtain⟨b1,o1,bm,du,bn⟩:=QG cl.out (by rw[ck.out];omega);obtain⟨rq,cap,hq,cu,G,aw⟩:=bn i ac;have ad:=d6.out i R vs first ac
   rw[hT.out] at ad;obtain⟨cv,ax,cd⟩:=d7.out i ac;have cw:=cn.out i ac;have cx:=d8.out i sX;obtain⟨row,am⟩:=Ah (S.rows[i]);rw[am] at cu G aw ad cv ax cd cw;subst bm;obtain⟨rs,H⟩:=Ah ([Value.bool row.head,.int .i64 row.id,.int .i64 row.quant,.slice rq row.cels.length cap]);have rl:rs.length=4:=by rw[<-H];rfl
   have ro:rs.toArray.all (·.oneCell')=true:=by rw[<-H];simp[Value.oneCell']
   have ay:wr.rangeAt b1 (o1+i*4) rs:=fun k v hk=>by
    obtain⟨a0,a1,a2,a3⟩:=aw wr (U.out _ hg);rw[<-H] at hk
    match k,hk with
    |0,hk=>injection hk with hk;subst hk;exact a0
    |1,hk=>injection hk with hk;subst hk;exact a1
    |2,hk=>injection hk with hk;subst hk;exact a2
    |3,hk=>injection hk with hk;subst hk;exact a3
   have cy:(prog.info? 46).map (·.size)=some rs.toArray.size:=by rw[show rs.toArray.size=4 from rl];kernel_rfl
   have cz:dr.size=rs.toArray.size:=by rw[bg];exact rl.symm
   obtain⟨K,hK⟩:=Ah wr.heap.size;obtain⟨wB,I⟩:=Ah (wr.alloc (.cells rs.toArray 46 (0,0)));have bo:Below wr.heap.size wr wB:=by rw[<-I];exact(Dn _ wr).alloc (B9 _) _
   have bp:wB.heap[K]? =some (.cells rs.toArray 46 (0,0)):=by rw[<-I,<-hK];exact heap_alloc_new wr _
   have ec:wB.heap.size=K+1:=by rw[<-I,<-hK];simp
   have dv:=Dm (fun(x:A5) (z:wB.grownBy x (some b))=>(by
    have h:=(z.block K sX (fun e=>by injection e with e;have:=hp.wr.lt;omega)).trans bp;rw[<-H] at h;exact⟨AA (o:=0) h rfl,AA (o:=1) h rfl,AA (o:=2) h rfl,AA (o:=3) h rfl⟩:x.cell? ⟨K,0,none⟩=some (.bool row.head)/\x.cell? ⟨K,1,none⟩=some (.int .i64 row.id)/\x.cell? ⟨K,2,none⟩=some (.int .i64 row.quant)/\x.cell? ⟨K,3,none⟩=some (.slice rq row.cels.length cap)))
   have ae:=hp.below bo;have az:Yah [some b] w wB:=hg.trans (Yah.below (L:=[]) bo) sV;have c0:=Dm I;have c1:=Dm hK;have bq:=Dm G;have c2:=Dm ad;have s:=Dm cv;have br:=Dm ax;have c3:=Dm cw;have c4:=Dm (bh.out i R vs first _ hT.out);have ed:D<=K:=by rw[<-hK,<-b9.out];exact hg.size
   have d:wB.grownBy wB (some b):=BF (Dn _ _) _;obtain⟨q0,q1,q2,q3⟩:=dv.out _ d;clear I hK H bp G aw bn ad cv ax cw am hT hp hg
   go_upto_if 30 with (first|(with_reducible refine Z2 rfl _ rfl b1 (o1+i*4) rfl rs ay rl ?_)|(with_reducible refine BL rfl 46 _ _ rfl rs.toArray dr 46 rfl rfl cy cz ro ?_;rw[c0.out,c1.out]))
   go_cut [7] (fun f wx=>∃a8,f=.int .i64 (F1 k i first row)/\Yhy wx W cc V A b B a8 zs k vv vs/\Hid (a8=R++FN i R.length row)/\wB.grownBy wx (some b))
   case first=>
    cases hd:row.head with
    |false=>
     try rw[hd]
     go_wp2
     go_meet
     case rel=>exact⟨R,by unfold F1;rw[hd];rfl,ae,Dm (by unfold FN;rw[hd];exact(Fa R).symm),d⟩
    |true=>
     obtain⟨c5,ia,iq,ha,a4,ee,bm,dw⟩:=cd hd;have c6:=fun(x:A5) (z:AN x B b R) (hz:B<=x.heap.size)=>Qo1 x B b R i ia iq sX z (by have:=c4.out;omega) hz;have c7:B<=wB.heap.size:=by have:=az.size;have:=dt.out;omega
     rw[ha] at q1;rw[a4] at q2;have bs:=Dm hd;have c8:=Dm ha;have c9:=Dm a4
     try rw[hd]
     clear hd ha a4 c5 cd
     go_wp2_with fail
     refine(c6 _ ae.wr c7).mono ?_;rintro e w5 ⟨rfl,da,y⟩;have af:=ae.wrote y da
     go_wp2
     go_meet
     case rel=>exact⟨_,by unfold F1;rw[bs.out];rfl,af,Dm (by rw[Y91];unfold FN;rw[bs.out,Bb rfl,c8.out,c9.out,Dp,Dp]),y⟩
   case rest=>
    obtain⟨a8,rfl,af,bt,y⟩:=hcut;obtain⟨wk,rfl⟩:∃x,x=wc:=⟨_,rfl⟩;obtain⟨-,-,-,q3⟩:=dv.out _ y;obtain⟨f,hf⟩:=Ah (F1 k i first row);have J:=c2.out;rw[<-bt.out,hf] at J;rw[hf];have bu:Yah [some b] w wk:=az.trans (M:=[some b]) (Yah.one y fun j _ e=>Wae) fun j _ h=>h;rw[s.out] at q3;have dx:row.cels.length=N:=s.out;obtain⟨bv,a5⟩:=Ah (JC inter k f a8 vs row.cels);rw[a5] at J;have an:Hid (JC inter k f a8 vs (row.cels.drop 0)=bv):=Dm a5;have db:=Dm J;have dc:Hid (bv.length<=60000000000):=Dm (bh.out _ _ _ _ _ J.symm);clear ae az d a5 J bt hf q0 q1 q2 cd cx y
    go_wp2
    go_loopw [44] (fun t wr=>∃(j:Nat) (ag:A0) (vz:List (Int×Int)) (ao:List UInt8),t=.int .i64 (j:Int)/\j<=N/\Yhy wr W cc V A b B ao zs k ag vz/\Hid (JC inter k f ao vz (row.cels.drop j)=bv)/\Yah [some b] w wr/\(∀j,ag.ownBlock=some j->D<=j)/\Hid (vz=vs++CP (row.cels.take j))) (fun t _=>N-(RowKit.intOf t).toNat)
    case atStart=>exact⟨0,vv,vs,a8,rfl,Do _,af,an,bu,l,Dm (by simp[CP])⟩
    case round=>
     clear af an bu l q3;obtain⟨j,ag,vz,ao,rfl,hj,hp,O,hg,l,P⟩:=hrel;by_cases dd:j<N
     ·have t2:decide ((j:Int)<(N:Int))=true:=sU;have ah:j<row.cels.length:=by rw[s.out];exact dd
      obtain⟨b2,o2,de,dy,bw⟩:=EE.each bq.out sX;obtain⟨cs,hV,bx⟩:=bw j ah;have Q:=hV.shape.1;have bz:=SL hV;have ay:wr.rangeAt b2 (o2+j*18) cs:=fun k v hk=>bx wr (U.out _ hg) k v hk;obtain⟨c,X⟩:=Ah (row.cels[j]);have Y:c∈row.cels:=X▸Bl ah;have a6:JC inter k f ao vz (c::row.cels.drop (j+1))=bv:=by rw[<-X,<-Fl ah];exact O.out
      rw[Y41] at a6;have ap:vz++[(c.mx,c.my)]=vs++CP (row.cels.take (j+1)):=by
       rw[P.out,Bd ah,X];unfold CP;rw[Cc,Bg];rfl
      rw[X] at hV;have aq:vz.length<=1048575:=by
       have h1:=bl.out;rw[P.out];unfold CP;rw[B8,Kh,Be];omega
      have ar:ao.length<=60000000000:=by
       have h1:=dc.out;have h2:=Bz List.length O.out;unfold JC at h2;rw[B8] at h2;omega
      obtain⟨C,hC⟩:=Ah wr.heap.size;obtain⟨wC,ai⟩:=Ah (wr.alloc (.cells cs.toArray 77 (0,0)));have df:wC.heap[C]? =some (.cells cs.toArray 77 (0,0)):=by rw[<-ai,<-hC];exact heap_alloc_new wr _
      have a7:Below wr.heap.size wr wC:=by rw[<-ai];exact(Dn _ wr).alloc (B9 _) _
      have b0:=hp.below a7;have Z:Yah [some b] w wC:=hg.trans (Yah.below (L:=[]) a7) sV;have p1:=Qg1 (first:=f) b0 d9.out (U.out _ Z) sX (by have:=Z.size;have:=dt.out;omega) co.out hV (c3.out c Y) (br.out c Y) ar aq cg;have b3:(prog.info? 77).map (·.size)=some cs.toArray.size:=by rw[show cs.toArray.size=18 from Q];kernel_rfl
      have dg:ds.size=cs.toArray.size:=by rw[ci];exact Q.symm
      have dh:=Dm ai;have di:=Dm hC;have dj:=Dm a6;have b4:=Dm ap;have ef:D<=wC.heap.size:=by have:=Z.size;have:=b9.out;omega
      have eg:=b0;have dk:=Dm Z;subst de;clear ai hC hV bx bw O a6 P ap hp hg a7 Z X Y aq ar
      go_wp2_with (first|(with_reducible refine Ur rfl _ rfl b2 (o2+j*18) rfl cs ay Q ?_)|(with_reducible refine BL rfl 77 _ _ rfl cs.toArray ds 77 rfl rfl b3 dg bz ?_;rw[dh.out,di.out])|(with_reducible refine Nk rfl 77 _ rfl C rfl 77 cs.toArray (0,0) _ df Io rfl b3 ?_))
      refine p1.mono ?_;rintro e w6 ⟨rfl,dl,dm,dn,dp⟩
      go_wp2
      go_roundw
      case rel=>
       refine⟨j+1,dl,_,_,tP,sX,dm,dj,dk.out.trans dn fun t ht hm=>?_,fun t ht=>?_,b4⟩
       ·have h:=b9.out;have hl:=eb.out;rcases Ee.1 hm with e|hm
        ·rw[e];exact Df.2 rfl
        ·rcases Ee.1 hm with e|hm
         ·injection e with e;omega
         ·have e:=Df.1 hm;have:=l t e.symm;omega
       ·rcases dp t ht with h|h
        ·exact l t h
        ·omega
      case measure=>simp[RowKit.intOf];omega
     ·obtain rfl:N=j:=sX;have t2:decide ((N:Int)<(N:Int))=false:=sV;have b5:row.cels.drop N=[]:=by rw[<-s.out,List.drop_length]
      have b6:row.cels.take N=row.cels:=by rw[<-s.out,Il]
      have b7:ao=bv:=by
       have h1:=O.out;rw[b5,Qah] at h1;exact h1
      have aa:vz=vs++CP row.cels:=by rw[P.out,b6]
      have dq:Hid (GW inter k (i+1) ao vz f (S.rows.drop (i+1))=T):=Dm (by rw[b7,aa];exact db.out.symm);have b8:Hid (vz.length<=1000*(i+1)):=Dm (by
       have h1:=bl.out;rw[aa];unfold CP;rw[B8,Kh,s.out];omega)
      clear b5 b6 b7 aa P O
      go_wp2
      go_roundw
      case rel=>exact⟨i+1,f,ag,vz,ao,rfl,tP,sX,hp,dq,hg,l,b8⟩
      case measure=>simp[RowKit.intOf];omega
  ·obtain rfl:n=i:=sX;have t1:decide ((n:Int)<(n:Int))=false:=sV;have hR:R=T:=by
    have h1:=hT.out;rw[<-ck.out,bi.out] at h1;exact h1
   subst hR
   go_wp2
   go_end0
   exact⟨rfl,hp.wr,hg.lone fun j _ hm=>by have e:=Df.1 hm;injection e⟩
def OW (u:A5)(S:ShP)(vs:List A0):Prop:=ShV u S vs/\S.rows.length<=4611686018427387904/\∀c∈FA S,∀k,k<6->(c.ev k).length<=1048576
theorem OW.sizes {u:A5}{S:ShP}{vs:List A0}(h:OW u S vs):(prog.info? 39).map (·.size)=some vs.toArray.size/\vs.toArray.size=8/\vs.toArray.all (·.oneCell')=true:=by
 obtain⟨p,q,ca,cb,rfl,-⟩:=h.1;exact⟨by rw[show (AU S.hd (.slice p S.hd.supp.length ca) (.slice q S.rows.length cb) S.zeros).toArray.size=8 from rfl];kernel_rfl,rfl,OI ..⟩
section
variable {u w:A5}{B b:Nat}{r:List UInt8}{S:ShP}{vs:List A0}
theorem fI (i:OW u S vs)(ht:Ybt u.heap.size u)(a:Below u.heap.size u w):A9 prog 20 #[.agg vs.toArray] w fun e j=>e=.returned (.int .i64 (DG S))/\Below w.heap.size w j:=by
 obtain⟨⟨p,q,ca,cb,rfl,b,l,d,f⟩,hn,g⟩:=i;refine mY S p q ca cb w b hn (d.below a) (f.below a) g fun c p n k x m hc=>?_;have h:=ht.below (a.trans (m.mono a.size));exact Zt S.hd.inter c p n k x hc h.tcoef h.steps
set_option maxRecDepth 100000 in
theorem Qml (hS:OW u S vs)(ht:Ybt u.heap.size u)(hu:Below u.heap.size u w)(hN:u.heap.size<=b)(hB:B<=w.heap.size)(hw:AN w B b r)(hr:r.length<=30000000000)(Y:DG S=0):
  A9 prog 37 #[.pointer (some ⟨b,0,none⟩),.agg vs.toArray] w fun e w'=>e=.returned (.int .i64 0)/\AN w' B b (GD r S)/\w.grownBy w' (some b):=by
 have m:=hS.sizes.1;obtain⟨hm,hz,⟨hR,aw⟩,N,ax,Z,f⟩:=Sz Y;have ay:=fA Y r;have az:=Qgj Y r;have a0:(IU r S).length<=r.length+400:=by
  have:=(LL.1 hm).2.2.1;rw[RW,B8,JG,SC];unfold gap;omega
 have n:=Ui r S;have s:=fun(x:A5) (d:Below u.heap.size u x)=>fI hS ht d;obtain⟨⟨p,q,ca,cb,L,a1,a2,aa,ab⟩,hn,ac⟩:=hS;have g:=fun(x:A5) (d:Below u.heap.size u x) (a:AN x B b r) (c:B<=x.heap.size)=>Zq x B b r S.hd p ca (.slice q S.rows.length cb) S.zeros (fun y hy=>aa.below (d.grown hy d.size (fun j hj=>Wag))) hm a sX c;have i:=fun(x:A5) (d:Below u.heap.size u x) (a:AN x B b (IU r S)) (c:B<=x.heap.size)=>pM (N:=N) S p q ca cb ab ht d hN c a aw Z f ac (by rw[WP];omega);rw[<-L] at g i;rw[Y] at s;have z7:vs[7]? =some (.int .i64 S.zeros):=by rw[L];rfl
 obtain⟨z,M⟩:∃z:Nat,S.zeros=(z:Int):=⟨S.zeros.toNat,sX⟩;rw[M] at z7 hz;rw[M,Dp] at n;have O:=fun(x:A5) (a:AN x B b (HZ r S)) (c:B<=x.heap.size)=>TB x B b (HZ r S) a sX c;have ad:GW S.hd.inter S.hd.fmt 0 (IU r S) [] 0 S.rows=HZ r S:=WP r S;rw[ad] at i;have ae:EH r 0++EN S.hd=IU r S:=rfl;rw[ae] at g;obtain⟨P,Q⟩:=Ah (HZ r S++List.replicate (gap (HZ r S).length) 48);rw[Q] at O n;have af:P.length<=32000000000:=by rw[<-Q,B8,Bp];unfold gap;omega
 have a3:=fun(x:A5) (j:Nat) (hj:j<=262144) (a:AN x B b (P++List.replicate (8*j) 48)) (c:B<=x.heap.size)=>IG x B b _ 0 8 a sY sY (by rw[B8,Bp];omega) c;have h8:∀j:Nat,P++List.replicate (8*j) 48++AF (0:Int).toNat (8:Int).toNat=P++List.replicate (8*(j+1)) 48:=fun j=>by
  rw[show AF (0:Int).toNat (8:Int).toNat=List.replicate 8 48 from OJ 8,Bg,Ln];rfl
 generalize HZ r S=bj at *;generalize IU r S=bk at *;generalize GD r S=bl at *;obtain⟨D,hD⟩:=Ah w.heap.size;obtain⟨A,hA⟩:=Ah vs.toArray;obtain⟨F,k⟩:=Ah (w.alloc (.cells A 39 (0,0)));have R:Below w.heap.size w F:=by rw[<-k];exact(Dn _ w).alloc (B9 _) _
 have a4:F.heap.size=D+1:=by rw[<-k,<-hD];simp
 have T:F.heap[D]? =some (.cells A 39 (0,0)):=by rw[<-k,<-hD];exact heap_alloc_new w _
 have G:=hw.below R;have bc:b<D:=by rw[<-hD];exact hw.lt
 rw[hA] at m g i s ⊢;have U:=Dm (fun(x:A5) (d:w.grownBy x (some b))=>(⟨hu.grown d hu.size (fun j hj=>Wag),Ef hB d.size⟩:Below u.heap.size u x/\B<=x.heap.size));have a5:=Dm (fun(x:A5) (d:F.grownBy x (some b))=>((d.block D sX (fun e=>vF)).trans T:x.heap[D]? =some (.cells A 39 (0,0))));have bd:=Dm (fun(x:A5) (d:F.grownBy x (some b))=>(by
  have h:=(d.block D sX (fun e=>vF)).trans T;rw[<-hA] at h;exact AA (o:=7) h z7:x.cell? ⟨D,7,none⟩=some (.int .i64 (z:Int))))
 have ag:=Dm (BF R (some b));have a6:=Dm k;have bf:=Dm hD;have a7:=Dm n;have bg:=Dm h8;have bh:z<=262144:=sX;have a8:=a5.out _ (BF (Dn _ _) _);have ah:F.grownBy F (some b):=BF (Dn _ _) _;have a9:=s F (U.out _ ag.out).1;clear L a1 a2 aa ab hn ac z7 n h8 k hD R a4 T hw hu hR ax Z f Y ay az a0 hm hz M ad ae Q af hA s hr hB ht
 go_enter func37,ntmps37
 go_wp2_with (with_reducible refine Nk rfl 39 _ rfl _ rfl 39 A (0,0) _ (heap_alloc_new w _) Oz rfl m ?_)
 rw[a6.out,bf.out];refine a9.mono ?_;rintro e w2 ⟨rfl,V⟩;have H:=G.below V;have v:=AP ah (BF V (some b));have ai:=a5.out _ v;obtain⟨aj,ak⟩:=U.out _ (AP ag.out v);have c2:=g w2 aj H ak;clear G a8 V H g aj ak ah
 go_wp2_with (with_reducible refine Nk rfl 39 _ rfl D rfl 39 A (0,0) _ ai Oz rfl m ?_)
 refine c2.mono ?_;rintro e w3 ⟨rfl,I,al⟩;have C:=AP v al;have am:=a5.out _ C;obtain⟨an,ao⟩:=U.out _ (AP ag.out C);have c3:=i w3 an I ao;clear ai c2 al v an ao i I
 go_wp2_with (with_reducible refine Nk rfl 39 _ rfl D rfl 39 A (0,0) _ am Oz rfl m ?_)
 refine c3.mono ?_;rintro e w4 ⟨rfl,J,hg4⟩;have W:=AP C hg4;obtain⟨ba,ap⟩:=U.out _ (AP ag.out W);have c4:=O w4 J ap;clear am c3 hg4 C ba ap O J
 go_wp2_with fail
 refine c4.mono ?_;rintro e w5 ⟨rfl,K,aq⟩;have X:=AP W aq;have k7:=bd.out _ X;have ar:=AP ag.out X;clear c4 aq W X;have l:AN w5 B b (P++List.replicate (8*0) 48):=by rw[Db];exact(Fa P).symm▸K
 clear K
 go_wp2
 go_loopw [23] (fun t wr=>∃j:Nat,t=.int .i64 (j:Int)/\j<=z/\AN wr B b (P++List.replicate (8*j) 48)/\w.grownBy wr (some b)) (fun t _=>z-(RowKit.intOf t).toNat)
 case atStart=>exact⟨0,rfl,Do _,l,ar⟩
 case round=>
  clear l ar k7;obtain⟨j,rfl,hj,E,hg⟩:=hrel;by_cases bi:j<z
  ·have t1:decide ((j:Int)<(z:Int))=true:=sU;have c5:=a3 wr j sX E (U.out _ hg).2;rw[bg.out] at c5;clear E
   go_wp2_with fail
   refine c5.mono ?_;rintro e w6 ⟨rfl,au,av⟩;have bb:=AP hg av;clear c5 hg av
   go_wp2
   go_roundw
   case rel=>exact⟨j+1,tP,sX,au,bb⟩
   case measure=>simp[RowKit.intOf];omega
  ·obtain rfl:z=j:=sX;have t1:decide ((z:Int)<(z:Int))=false:=sV;rw[<-a7.out] at E
   go_wp2
   go_ret
   exact⟨rfl,E,hg⟩
end
def exSA:Cel:={Bx with kind:=3,dc:=fun _=>9}
def exS1:ShP:=⟨⟨0,0,6,false,5,[]⟩,[⟨false,0,0,[exSA,exSA]⟩,⟨false,0,0,[exSA,exSA]⟩],0⟩
theorem VK (w:A5)(c:Cel)(hm:(Lit.int .i64 c.mx).wf=true/\(Lit.int .i64 c.my).wf=true)(h:∀i,i<6->c.ev i=[]):JM w c (AD c nilS):=
 ⟨fun _=>none,fun _=>0,Qab fun i hi=>by rw[h i hi];rfl,hm,fun i hi=>by rw[h i hi];exact⟨Do _,.inl rfl⟩⟩
theorem Qm1 {w:A5}{b:Nat}{c d:Cel}(hc:(Lit.int .i64 c.mx).wf=true/\(Lit.int .i64 c.my).wf=true)(hd:(Lit.int .i64 d.mx).wf=true/\(Lit.int .i64 d.my).wf=true)(a:∀i,i<6->c.ev i=[])(e:∀i,i<6->d.ev i=[])
  (h:w.heap[b]? =some (.cells (AD c nilS++AD d nilS).toArray 77 (0,0))):MF w (some ⟨b,0,none⟩) [c,d]:=by
 refine .inr ⟨b,0,rfl,(Am.1 h).1,fun i hi=>?_⟩
 match i,hi with
 |0,_=>
  refine⟨AD c nilS,VK w c hc a,fun j v hj=>?_⟩;have hl:j<18:=(Ho.1 hj).1;rw[Cg,Ar];exact AA h (by rw[Hj hl];exact hj)
 |1,_=>
  refine⟨AD d nilS,VK w d hd e,fun j v hj=>?_⟩;exact AA h (by rw[Ga (by show 18<=0+1*18+j;omega),show 0+1*18+j-(AD c nilS).length=j by show 0+1*18+j-18=j;omega];exact hj)
theorem Qm2 {w:A5}{b a b2:Nat}{l m:List Cel}(h:w.heap[b]? =some (.cells #[.bool false,.int .i64 0,.int .i64 0,.slice (some ⟨a,0,none⟩) 2 2,.bool false,.int .i64 0,.int .i64 0,.slice (some ⟨b2,0,none⟩) 2 2] 46 (0,0)))
  (hl:l.length=2)(hm:m.length=2)(h1:MF w (some ⟨a,0,none⟩) l)(h2:MF w (some ⟨b2,0,none⟩) m):HU w (some ⟨b,0,none⟩) [⟨false,0,0,l⟩,⟨false,0,0,m⟩]:=by
 have c:w.heap[b]? =some (.cells [.bool false,.int .i64 0,.int .i64 0,.slice (some ⟨a,0,none⟩) 2 2,.bool false,.int .i64 0,.int .i64 0,.slice (some ⟨b2,0,none⟩) 2 2].toArray 46 (0,0)):=h;refine .inr ⟨b,0,rfl,(Am.1 h).1,fun i hi=>?_⟩
 match i,hi with
 |0,_=>
  refine⟨[.bool false,.int .i64 0,.int .i64 0,.slice (some ⟨a,0,none⟩) 2 2],⟨some ⟨a,0,none⟩,2,(by show _=[Value.bool false,.int .i64 0,.int .i64 0,.slice _ l.length 2];rw[hl]),(fun h=>uA),(by show l.length<=_;rw[hl];decide),h1⟩,fun j v hj=>?_⟩
  match j,hj with
  |0,hj|1,hj|2,hj|3,hj=>injection hj with hj;subst hj;exact AA c rfl
 |1,_=>
  refine⟨[.bool false,.int .i64 0,.int .i64 0,.slice (some ⟨b2,0,none⟩) 2 2],⟨some ⟨b2,0,none⟩,2,(by show _=[Value.bool false,.int .i64 0,.int .i64 0,.slice _ m.length 2];rw[hm]),(fun h=>uA),(by show m.length<=_;rw[hm];decide),h2⟩,fun j v hj=>?_⟩
  match j,hj with
  |0,hj|1,hj|2,hj|3,hj=>injection hj with hj;subst hj;exact AA c rfl
theorem sH {P:Program}{ops:Array Oper}{rest:List Oper}{op:Oper}{a:Act}{w:A5}{Q:Exit->Act->A5->Prop}(c:op.guard=none)(ty:A7)(x y:Operand)(ho:op.op=.store ty x y)
  (Z b:Array A0)(T:A7)(N:Nat)(d:w.heap.size=N)(e:a.eval x=.pointer (some ⟨N,0,none⟩))(f:a.eval y=.agg Z)(hi:(P.info? ty).map (·.size)=some Z.size)(hs:b.size=Z.size)(h1:Z.all (·.oneCell')=true)
  (h:wpList P ops Q rest (a.put op.dst undef) (w.alloc (.cells Z T (0,0)))):wpList P ops Q (op::rest) a (w.alloc (.cells b T (0,0))):=by
 subst d;exact BL c ty x y ho Z b T e f hi hs h1 h
theorem PD (w:A5)(o:Obj):∃a,w.alloc o=a/\a.heap.size=w.heap.size+1/\a.heap[w.heap.size]? =some o/\Below w.heap.size w a:=
 ⟨_,rfl,sV,heap_alloc_new w _,(Dn _ w).alloc (B9 _) _⟩
end
end Go.Proofs.YtjjmalchelniiaaGreatDoor
