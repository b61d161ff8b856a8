/- Part 47 of StripsOnce. No condition. -/
import Derived.Test.YtjjmalchelniiaaGreatDoorStripsOnceMa
import Derived.Test.YtjjmalchelniiaaGreatDoorStripsOnceMj
import Derived.Test.YtjjmalchelniiaaGreatDoorStripsOnceMn
import Derived.Test.YtjjmalchelniiaaGreatDoorStripsOnceMp
import Derived.Test.YtjjmalchelniiaaGreatDoorStripsOnceMq
import Derived.Test.YtjjmalchelniiaaGreatDoorStripsOnceMy
import Derived.Test.YtjjmalchelniiaaGreatDoorStripsOnceMz
import Derived.Test.YtjjmalchelniiaaGreatDoorStripsOnceMbn
import Derived.Test.YtjjmalchelniiaaGreatDoorStripsOnceMbq
import Derived.Test.YtjjmalchelniiaaGreatDoorStripsOnceMbr
import Derived.Test.YtjjmalchelniiaaGreatDoorStripsOnceMbs
import Derived.Test.YtjjmalchelniiaaGreatDoorStripsOnceMbt
namespace Go.Proofs.YtjjmalchelniiaaGreatDoor
open Go.RowKit
theorem Ymb {inter:Bool}{k first:Int}:∀(cs:List Cel) (vs:List (Int×Int)),cs.all (Ybp inter)=true→(Yc9 inter k first vs cs).length≤20000*cs.length
 |[],_,_=>Nat.le_refl _
 |c::cs,vs,h=>by
  rw[List.all_cons,Bool.and_eq_true] at h;rw[Yc9,List.length_append,List.length_cons];have h1:=Y9e h.1 (Yd3 vs (Yd0 k) first).1 (Yd3 vs (Yd0 k) first).2;have h2:=Ymb (k:=k) (first:=first) cs (vs++[(c.mx,c.my)]) h.2;omega
theorem Y5a (i p:Nat)(r:RowP):(Yg2 i p r).length≤36:=by
 unfold Yg2;cases r.head with
 |true=>
  rw[if_pos rfl,Yql];unfold gap;omega
 |false=>exact Nat.zero_le _
theorem Ymi {inter:Bool}{k:Int}{N M:Nat}(hM:36+20000*N≤M):∀(rs:List RowP) (i p:Nat) (vs:List (Int×Int)) (first:Int),Yde (Yed inter (N:Int)) i rs=true→(Ycp inter k i p vs first rs).length≤M*rs.length
 |[],_,_,_,_,_=>Nat.zero_le _
 |r::rs,i,p,vs,first,h=>by
  rw[Yde,Bool.and_eq_true] at h;have hr:=h.1;unfold Yed at hr;rw[Bool.and_eq_true,decide_eq_true_iff,Bool.and_eq_true] at hr;obtain⟨hc,-,ha⟩:=hr;rw[Ycp];have h1:=Y5a i p r;have h2:=Ymb (k:=k) (first:=Yqj k i first r) r.cels vs ha;have h3:=Ymi (k:=k) hM rs (i+1) (p+(Yg2 i p r).length+(Yc9 inter k (Yqj k i first r) vs r.cels).length) (vs++Ydl r.cels) (Yqj k i first r) h.2
  rw[List.length_append,List.length_append,List.length_cons,Nat.mul_succ];have hN:r.cels.length=N:=by omega
  rw[hN] at h2;omega
theorem Yng {S:ShP}(h:Yd5 S=0):Yej S.hd=true∧(0≤S.zeros∧S.zeros≤262144)∧((S.rows.length:Int)=Yhx S.hd.fmt∧S.rows.length≤18)∧∃N:Nat,Yf6 S.hd.fmt=(N:Int)∧(0<N∧N≤352)∧Yde (Yed S.hd.inter (N:Int)) 0 S.rows=true:=by
 obtain⟨h1,-⟩:=Yr4 h;unfold Ye8 at h1;simp only[Bool.and_eq_true,decide_eq_true_iff] at h1;obtain⟨hm,hz,hn,hr⟩:=h1;have hfm:=(Yd2.1 hm).2.1;have hk:0<Yf6 S.hd.fmt∧Yf6 S.hd.fmt≤352∧Yhx S.hd.fmt≤18:=by
  have h6:S.hd.fmt=1∨S.hd.fmt=2∨S.hd.fmt=3∨S.hd.fmt=4∨S.hd.fmt=5∨S.hd.fmt=6:=by omega
  rcases h6 with h6|h6|h6|h6|h6|h6 <;> rw[h6] <;> decide +kernel
 refine⟨hm,hz,⟨hn,by omega⟩,(Yf6 S.hd.fmt).toNat,by omega,by omega,?_⟩;rw[Int.toNat_of_nonneg (by omega)];exact hr
theorem Yw4 {S:ShP}(h:Yd5 S=0)(r:List UInt8):(Y12 r S).length≤r.length+130000000:=by
 obtain⟨hm,-,⟨-,h18⟩,N,-,hN,hr⟩:=Yng h;have h8:=(Yd2.1 hm).2.2.1;have h1:=Ymi (k:=S.hd.fmt) (N:=N) (M:=7040036) (by omega) S.rows 0 (Y4w r S).length [] 0 hr;have h2:7040036*S.rows.length≤7040036*18:=Nat.mul_le_mul_left _ h18;unfold Y12 Yg4;generalize Ycp S.hd.inter S.hd.fmt 0 (Y4w r S).length [] 0 S.rows=RR at *;rw[List.length_append,Ygz,List.length_append,Ybb,Yff];unfold gap;omega
theorem Y9q {S:ShP}(h:Yd5 S=0)(r:List UInt8):(Yu4 r S).length≤r.length+134217728:=by
 obtain⟨-,hz,-,-⟩:=Yng h;have h1:=Yw4 h r;rw[Ylq];simp only[List.length_append,List.length_replicate];unfold gap;omega
theorem Yn4 {inter:Bool}{k first:Int}:∀(cs:List Cel) (vs:List (Int×Int)),Yax (Yc9 inter k first vs cs)=true
 |[],_=>rfl
 |c::cs,vs=>by rw[Yc9,Yar,Y3o,Yn4 cs];rfl
theorem Ypj {inter:Bool}{k:Int}:∀(rs:List RowP) (i p:Nat) (vs:List (Int×Int)) (first:Int),Yax (Ycp inter k i p vs first rs)=true
 |[],_,_,_,_=>rfl
 |r::rs,i,p,vs,first=>by
  rw[Ycp,Yar,Yar,Yn4,Ypj rs];unfold Yg2;cases r.head with
  |true=>rw[if_pos rfl,Yzo];rfl
  |false=>rfl
theorem Yya (p:Nat)(S:ShP):Yax (Ybm p S)=true:=by
 unfold Ybm Yg4 Yqi;rw[Yar,Yar,Yar,Yar,Yot,Y5o,Ypj,Yd9,Yd9];rfl
end Go.Proofs.YtjjmalchelniiaaGreatDoor
namespace Go.Proofs.YtjjmalchelniiaaGreatDoor
open Go.RowKit Go.Lib
section
variable {w z:World}{B b:Nat}{r:List UInt8}
theorem Ygp {g g':Nat}{cs cs':Array Value}{T T':TypeId}(h:w.heap[g]? =some (.cells cs T (0,0)))(h':w.heap[g']? =some (.cells cs' T' (0,0)))(hT:T≠T'):g≠g':=by
 rintro rfl;rw[h] at h';injection h' with h';injection h' with _ h';exact hT h'
theorem Yiy.typed (hk:∀(g:Nat) (cs:Array Value),w.heap[g]? =some (Obj.cells cs 116 (0,0))→z.heap[g]? =some (Obj.cells cs 116 (0,0))):∀{k:Nat} {v:Value},Yiy w B r k v→Yiy z B r k v
 |0,_,c=>c
 |_+1,_,⟨g,v',e,hg,hh,c⟩=>⟨g,v',e,hg,hk g _ hh,c.typed hk⟩
theorem Ycj.typed (h:Ycj w B b r)(hk:∀(g:Nat) (cs:Array Value) (T:TypeId),(T=111∨T=116)→w.heap[g]? =some (Obj.cells cs T (0,0))→z.heap[g]? =some (Obj.cells cs T (0,0))):Ycj z B b r:=by
 obtain⟨h1,h2,v,h3,h4⟩:=h;exact⟨h1,h2,v,hk _ _ _ (.inl rfl) h3,h4.typed fun g cs hh=>hk g cs _ (.inr rfl) hh⟩
theorem Ykr {base e c n j:Nat}{v:Value}{xs:List Value}(h:w.ownsRow base e c v n xs)(hj:v.ownBlock=some j):∃cur,w.heap[j]? =some (.cells cur e (0,0)):=by
 rcases h.2 with ⟨rfl,_⟩|⟨g,cap,cur,rfl,_,hh,_⟩
 ·cases hj
 ·injection hj with hj;exact⟨cur,hj▸hh⟩
end
structure Yf0 (w:World) (W S V A b B:Nat) (r:List UInt8) (zs:List Value) (k:Int) (vv:Value) (vs:List (Int×Int)):Prop where
 bw:w.heap[W]? =some (.cells [.pointer (some ⟨b,0,none⟩)].toArray 66 (0,0))
 bs:w.heap[S]? =some (.cells zs.toArray 39 (0,0))
 bv:w.heap[V]? =some (.cells [vv].toArray 98 (0,0))
 ba:w.heap[A]? =some (.cells [.int .i64 (Yd0 k)].toArray 3 (0,0))
 wr:Ycj w B b r
 vec:w.ownsRow 0 73 2 vv vs.length (Y6e vs)
section
variable {w z:World}{W S V A b B:Nat}{r r':List UInt8}{zs:List Value}{k:Int}{vv vv':Value}{vs:List (Int×Int)}
theorem Yf0.block {g:Nat}{cs:Array Value}{T:TypeId}{L:List (Option Nat)}(h:w.heap[g]? =some (.cells cs T (0,0)))(hg:Yae L w z)(hL:some g∉L):z.heap[g]? =some (.cells cs T (0,0)):=
 (hg.block g (Array.getElem?_eq_some_iff.1 h).1 hL).trans h
theorem Yf0.below (h:Yf0 w W S V A b B r zs k vv vs)(hb:Below w.heap.size w z):Yf0 z W S V A b B r zs k vv vs where
 bw:=Yf0.block h.bw (Yae.below (L:=[]) hb) (by simp)
 bs:=Yf0.block h.bs (Yae.below (L:=[]) hb) (by simp)
 bv:=Yf0.block h.bv (Yae.below (L:=[]) hb) (by simp)
 ba:=Yf0.block h.ba (Yae.below (L:=[]) hb) (by simp)
 wr:=h.wr.below hb
 vec:=Y9s h.vec hb
theorem Ycj.block {w:World}{B b:Nat}{r:List UInt8}(h:Ycj w B b r):∃cs,w.heap[b]? =some (.cells cs 111 (0,0)):=by
 obtain⟨-,-,v,h3,-⟩:=h;exact⟨_,h3⟩
theorem Yf0.wrote (h:Yf0 w W S V A b B r zs k vv vs)(hg:w.grownBy z (some b))(hw:Ycj z B b r'):Yf0 z W S V A b B r' zs k vv vs:=by
 obtain⟨cs,hc⟩:=h.wr.block;have key:∀{g:Nat} {cs':Array Value} {T:TypeId},T≠111→w.heap[g]? =some (.cells cs' T (0,0))→z.heap[g]? =some (.cells cs' T (0,0)):=fun hT hh=>
  (hg.block _ (Array.getElem?_eq_some_iff.1 hh).1 fun e=>by injection e with e;exact Ygp hh hc hT e).trans hh
 exact{
  bw:=key (by decide) h.bw
  bs:=key (by decide) h.bs
  bv:=key (by decide) h.bv
  ba:=key (by decide) h.ba
  wr:=hw
  vec:=Yex h.vec (M:=[some b]) (Yae.one hg fun j _ e=>by rw[e];exact List.mem_singleton.2 rfl) fun j hj hm=>by
   have e:=List.mem_singleton.1 hm;injection e with e;obtain⟨cur,hcur⟩:=Ykr h.vec hj;exact Ygp hcur hc (by decide) e}
theorem Yf0.more {v:Int×Int}(h:Yf0 w W S V A b B r zs k vv vs)(hg:w.grownBy z vv.ownBlock)(ho:z.ownsRow 0 73 2 vv' (vs.length+1) (Y6e vs++[.int .i64 v.1,.int .i64 v.2])):
  Yf0 (z.setCell ⟨V,0,none⟩ vv') W S V A b B r zs k vv' (vs++[v]):=by
 have key:∀{g:Nat} {cs':Array Value} {T:TypeId},T≠73→w.heap[g]? =some (.cells cs' T (0,0))→z.heap[g]? =some (.cells cs' T (0,0)):=fun hT hh=>
  (hg.block _ (Array.getElem?_eq_some_iff.1 hh).1 fun e=>by
   obtain⟨cur,hcur⟩:=Ykr h.vec e.symm;exact Ygp hh hcur hT rfl).trans hh
 have hV:=key (by decide) h.bv;have hs:z.grownBy (z.setCell ⟨V,0,none⟩ vv') (some V):=Yap z ⟨V,0,none⟩ vv';have key2:∀{g:Nat} {cs':Array Value} {T:TypeId},T≠98→z.heap[g]? =some (.cells cs' T (0,0))→(z.setCell ⟨V,0,none⟩ vv').heap[g]? =some (.cells cs' T (0,0)):=fun hT hh=>
  (hs.block _ (Array.getElem?_eq_some_iff.1 hh).1 fun e=>by injection e with e;exact Ygp hh hV hT e).trans hh
 exact{
  bw:=key2 (by decide) (key (by decide) h.bw)
  bs:=key2 (by decide) (key (by decide) h.bs)
  bv:=Yau (o:=0) vv' hV
  ba:=key2 (by decide) (key (by decide) h.ba)
  wr:=h.wr.typed fun g cs T hT hh=>by
   rcases hT with rfl|rfl
   ·exact @key2 _ _ 111 (by decide) (@key _ _ 111 (by decide) hh)
   ·exact @key2 _ _ 116 (by decide) (@key _ _ 116 (by decide) hh)
  vec:=by
   rw[List.length_append,Yx9];exact Yex ho (M:=[some V]) (Yae.set _ (List.mem_singleton.2 rfl)) fun j hj hm=>by
    have e:=List.mem_singleton.1 hm;injection e with e;obtain⟨cur,hcur⟩:=Ykr ho hj;exact Ygp hcur hV (by decide) e}
end
section
variable {u w:World}{W S V A b B n m ca cb:Nat}{r:List UInt8}{zs:List Value}{k:Int}{vv:Value}{vs:List (Int×Int)}
set_option maxRecDepth 100000 in
set_option maxHeartbeats 1000000 in
theorem Yz5 (hd:Shd)(p q:Option Addr)(z:Int)(hw:Ycj w B b r):
  Calls Tryz.prog 104 #[.pointer (some ⟨b,0,none⟩),.agg (Ya5 hd (.slice p n ca) (.slice q m cb) z).toArray] w fun e w'=>∃W S V A,e=.returned (.func (.func 138) #[] #[.pointer (some ⟨W,0,none⟩),.pointer (some ⟨S,0,none⟩),.pointer (some ⟨V,0,none⟩),.pointer (some ⟨A,0,none⟩)])∧
   Yf0 w' W S V A b B r (Ya5 hd (.slice p n ca) (.slice q m cb) z) hd.fmt (.slice none 0 0) []∧Below w.heap.size w w'∧w.heap.size≤W∧w.heap.size≤S∧w.heap.size≤V∧w.heap.size≤A:=by
 have hmf:∀(fn:Fn) (first cap:Array Value) (w:World),(Instr.makeFunc fn first cap).run Tryz.prog w=.ok (.func fn first cap) w:=fun _ _ _ _=>rfl;obtain⟨zs,hZ⟩:∃zs,Ya5 hd (.slice p n ca) (.slice q m cb) z=zs:=⟨_,rfl⟩;have z2:zs[2]? =some (.int .i64 hd.fmt):=by rw[←hZ];rfl
 rw[hZ];have cf:=fun x=>Yfn hd.fmt x;generalize hd.fmt=k at *;obtain⟨R,w1,w2,hR,hw1,hw2,hz1,hz2,hC0,hC1,hbC⟩:=Y4k w (.cells #[.pointer (some ⟨b,0,none⟩)] 66 (0,0)) (.cells zs.toArray 39 (0,0));have k2:=Yab (o:=2) hC1 z2;obtain⟨R3,w3,w4,hR3,hw3,hw4,hz3,hz4,hC2,hC3,hbD⟩:=Y4k w2 (.cells #[.int .i64 (Yd0 k)] 3 (0,0)) (.cells #[.slice none 0 0] 98 (0,0));obtain rfl:R3=R+2:=by omega
 have hbX:Below R w w4:=hbC.trans (hbD.mono (by omega));have hat:Yf0 w4 R (R+1) (R+3) (R+2) b B r zs k (.slice none 0 0) []:={
  bw:=(hbD.block R (by omega)).trans hC0
  bs:=(hbD.block (R+1) (by omega)).trans hC1
  bv:=hC3
  ba:=hC2
  wr:=hw.below (hR▸hbX)
  vec:=World.ownsRow_nil ..}
 have HW1:=Lib.hid hw1;have HW2:=Lib.hid hw2;have HW3:=Lib.hid hw3;have HW4:=Lib.hid hw4;have HR:=Lib.hid hR;have HZ2:=Lib.hid hz2;have HAT:=Lib.hid hat;have HBX:=Lib.hid hbX;clear hat hbX hC0 hC1 hC2 hC3 hbC hbD hw1 hw2 hw3 hw4 hR hR3 hz1 hz2 hz3 hz4 hZ
 go_enter Tryz.func104,Tryz.ntmps104
 go_wp2_with fail
 rw[HW1.out,HW2.out,HR.out];refine(cf _).mono ?_;rintro e x ⟨rfl,rfl⟩
 go_wp2
 rw[HW3.out,HW4.out,HZ2.out]
 go_ret
 rw[HR.out];exact⟨R,R+1,R+3,R+2,rfl,HAT.out,HBX.out,by omega,by omega,by omega,by omega⟩
set_option maxRecDepth 100000 in
set_option maxHeartbeats 4000000 in
theorem Qaa {c:Cel}{cs:List Value}{inter:Bool}{first:Int}(h:Yf0 w W S V A b B r zs k vv vs)(hz3:zs[3]? =some (.bool inter))(hu:Below u.heap.size u w)(hN:u.heap.size≤b)(hB:B≤w.heap.size)(ht:Ybh u.heap.size u)
  (hc:Y6l u c cs)(hev:∀i,i<6→(c.ev i).length≤1048576)(hm:Ybp inter c=true)(hr:r.length≤60000000000)(hn:vs.length≤1048575)(hk:Yd0 k≤1000):
  Calls Tryz.prog 138 #[.agg cs.toArray,.int .i64 first,.pointer (some ⟨W,0,none⟩),.pointer (some ⟨S,0,none⟩),.pointer (some ⟨V,0,none⟩),.pointer (some ⟨A,0,none⟩)] w fun e w'=>e=.returned (.tuple #[])∧
   ∃vv',Yf0 w' W S V A b B (r++Yc4 inter (Yd3 vs (Yd0 k) first).1 (Yd3 vs (Yd0 k) first).2 c) zs k vv' (vs++[(c.mx,c.my)])∧Yae [some b,some V,vv.ownBlock] w w'∧∀j,vv'.ownBlock=some j→vv.ownBlock=some j∨w.heap.size≤j:=by
 obtain⟨vp,vcap,hvv,hVA⟩:=Y23 rfl h.vec;subst hvv;obtain⟨p,cap,hcs,hwf,he⟩:=hc;have hci:Ymt u c p fun i=>(c.ev i).length:=fun i hi=>⟨rfl,hev i hi,(he i hi).2⟩;obtain⟨Z,hZ⟩:∃Z,cs.toArray=Z:=⟨_,rfl⟩;have hsz:(Tryz.prog.info? 77).map (·.size)=some Z.size:=by rw[←hZ,hcs];exact Yhr ..
 obtain⟨C,hC⟩:∃C,w.heap.size=C:=⟨_,rfl⟩;obtain⟨w0,hw0⟩:∃w0,w.alloc (.cells Z 77 (0,0))=w0:=⟨_,rfl⟩;have hb0:Below w.heap.size w w0:=by rw[←hw0];exact(Below.refl _ w).alloc (Nat.le_refl _) _
 have hhC:w0.heap[C]? =some (.cells Z 77 (0,0)):=by rw[←hw0,←hC];exact heap_alloc_new w _
 have hs0:w0.heap.size=C+1:=by rw[←hw0,←hC];simp
 have h0:=h.below hb0;have hVX:=hVA.mono hb0;have hu0:Below u.heap.size u w0:=hu.trans (hb0.mono hu.size);have hbC:b<C:=by rw[←hC];exact h.wr.lt
 have hVC:V<C:=by rw[←hC];exact(Array.getElem?_eq_some_iff.1 h.bv).1
 obtain⟨⟨fx,fy⟩,hfo⟩:∃f,Yd3 vs (Yd0 k) first=f:=⟨_,rfl⟩
 have CO:=Lib.hid (fun(x:World) (hx:Below w0.heap.size w0 x)=>(Yrj (fun i=>vs.getD i (0,0)) vp vs.length vcap (Yd0 k) first x (hVX.mono hx) (by unfold maxLen;omega) (by omega)).mono fun e y (z:Ysx _ x e y)=>
  (⟨by rw[z.1,show Qi5 (fun i=>vs.getD i (0,0)) vs.length (Yd0 k) first=(fx,fy) from hfo];rfl,hx.trans (z.2.mono hx.size)⟩:e=.returned (.agg #[.int .i64 fx,.int .i64 fy])∧Below w0.heap.size w0 y))
 have key:∀x,Below w0.heap.size w0 x→∀z,x.grownBy z (some b)→Below u.heap.size u z:=fun x hx z hz=>(hu0.trans (hx.mono hu0.size)).grown hz (hu0.trans (hx.mono hu0.size)).size (fun j hj=>by injection hj with hj;omega);have CP:=Lib.hid (fun(x:World) (hx:Below w0.heap.size w0 x)=>(by
  have h1:=Qhj inter fx fy c p (fun i=>(c.ev i).length) cap B b r x (h0.below hx).wr (by omega) (by have:=hx.size;omega) (fun z hz=>by
   have hk:=key x hx z hz;have h:=ht.below hk;exact⟨Ybh.here h.pats h.mvd h.steps h.tcoef,hci.below hk⟩) hm
  rw[←hcs,hZ] at h1;exact h1:Calls Tryz.prog 139 #[.pointer (some ⟨b,0,none⟩),.bool inter,.agg #[.int .i64 fx,.int .i64 fy],.agg Z] x fun e w'=>e=.returned (.int .i64 0)∧Ycj w' B b (r++Yc4 inter fx fy c)∧x.grownBy w' (some b)))
 have K0:=Lib.hid (fun(x:World) (hx:Below w0.heap.size w0 x)=>Yab (o:=0) (h0.below hx).bw rfl);have K1:=Lib.hid (fun(x:World) (hx:Below w0.heap.size w0 x)=>Yab (o:=3) (h0.below hx).bs hz3);have K2:=Lib.hid (fun(x:World) (hx:Below w0.heap.size w0 x)=>Yab (o:=0) (h0.below hx).bv rfl);have K3:=Lib.hid (fun(x:World) (hx:Below w0.heap.size w0 x)=>Yab (o:=0) (h0.below hx).ba rfl)
 have K4:=Lib.hid (fun(x:World) (hx:Below w0.heap.size w0 x)=>((hx.block C (by omega)).trans hhC:x.heap[C]? =some (.cells Z 77 (0,0))));have H0:=Lib.hid h0;have HW0:=Lib.hid hw0;have HC:=Lib.hid hC;have HB0:=Lib.hid hb0;have v4:cs[4]? =some (.int .i64 c.mx):=by rw[hcs];rfl
 have v5:cs[5]? =some (.int .i64 c.my):=by rw[hcs];rfl
 have HZ:=Lib.hid hZ;have V4:=Lib.hid v4;have V5:=Lib.hid v5;have hbd:=(Below.refl w0.heap.size w0).drew;obtain⟨CR,hCR⟩:∃CR,Yc4 inter fx fy c=CR:=⟨_,rfl⟩;rw[hfo,hCR,hZ];rw[hCR] at CP;clear h hz3 hu hev hm hr hwf he hci hcs hZ hC hw0 hb0 hVA hVX hu0 hfo key h0 v4 v5 hk ht hN hB
 go_enter Tryz.func138,Tryz.ntmps138
 go_upto_region 1 with fail
 rw[HW0.out,HC.out];refine Ya0 (S:=fun x=>Below w0.heap.size w0 x) 8 (by kernel_rfl) (by kernel_rfl) hbd ?_;simp only[List.take_succ_cons,List.take_zero,List.drop_succ_cons,List.drop_zero];refine Ya7 66 _ ⟨W,0,none⟩ (.pointer (some ⟨b,0,none⟩)) (by kernel_rfl) rfl rfl (fun x hx=>by have c0:=K0.out x hx;go_simp) ?_;simp only[Yaa]
 refine Yaf (by kernel_rfl) (fun x _=>by go_simp;try with_reducible rfl) ?_;simp only[Yaa];refine Ya7 4 _ ⟨S,3,none⟩ (.bool inter) (by kernel_rfl) rfl rfl (fun x hx=>by have c0:=K1.out x hx;go_simp) ?_;simp only[Yaa];refine Ya7 98 _ ⟨V,0,none⟩ (.slice vp vs.length vcap) (by kernel_rfl) rfl rfl (fun x hx=>by have c0:=K2.out x hx;go_simp) ?_;simp only[Yaa]
 refine Ya7 3 _ ⟨A,0,none⟩ (.int .i64 (Yd0 k)) (by kernel_rfl) rfl rfl (fun x hx=>by have c0:=K3.out x hx;go_simp) ?_;simp only[Yaa];refine Yaf (by kernel_rfl) (fun x _=>by go_simp;try with_reducible rfl) ?_;simp only[Yaa];refine Ya9 (by kernel_rfl) CO.out (fun _=>by kernel_rfl) ?_;simp only[Yaa]
 refine Yev 77 _ C 77 Z (0,0) _ (by kernel_rfl) rfl rfl (fun x hx=>K4.out x hx) Tryz.underlying77 rfl hsz ?_;simp only[Yaa];refine Ych fun x hx=>?_
 go_wp2_with fail
 refine(CP.out _ hx).mono ?_;rintro e w2 ⟨rfl,hw2,hg2⟩;have h2:=(H0.out.below hx).wrote hg2 hw2;have hC2:=(hg2.block C (by have:=hx.size;omega) (fun e=>by injection e with e;omega)).trans (K4.out _ hx);have hr2:w2.rangeAt C 4 [.int .i64 c.mx,.int .i64 c.my]:=fun j v hj=>by
  rw[←HZ.out] at hC2
  match j,hj with
  |0,hj=>injection hj with hj;subst hj;exact Yab hC2 V4.out
  |1,hj=>injection hj with hj;subst hj;exact Yab hC2 V5.out
 have kv:=Yab (o:=0) h2.bv rfl;obtain⟨ti,j0,j1,j2,j3⟩:=Y1r;have ho2:=h2.vec;obtain⟨wP,hwP⟩:∃wP,w2.alloc (.cells #[.int .i64 c.mx,.int .i64 c.my] 73 (0,0))=wP:=⟨_,rfl⟩;have hbP:Below w2.heap.size w2 wP:=by rw[←hwP];exact(Below.refl _ w2).alloc (Nat.le_refl _) _
 have hP:=h2.below hbP;have hpo:=hP.vec;have c0:wP.cell? ⟨w2.heap.size,0,none⟩=some (.int .i64 c.mx):=by rw[←hwP];exact Yab (cs:=[.int .i64 c.mx,.int .i64 c.my]) (heap_alloc_new w2 _) rfl
 have c1:wP.cell? ⟨w2.heap.size,1,none⟩=some (.int .i64 c.my):=by rw[←hwP];exact Yab (cs:=[.int .i64 c.mx,.int .i64 c.my]) (heap_alloc_new w2 _) rfl
 have hsz2:C+1≤w2.heap.size:=by have:=hx.size;have:=hg2.size;omega
 have HH2:=Lib.hid h2;have HG2:=Lib.hid hg2;have HX:=Lib.hid hx;have HP:=Lib.hid hP;have HBP:=Lib.hid hbP;have HWP:=Lib.hid hwP;clear hwP h2 hg2 hx hP hbP ho2 hC2 hw2
 go_wp2_with (first|(with_reducible refine Y4l rfl _ rfl C 4 rfl c.mx c.my hr2 ?_)|(at_builtin;rw[HWP.out];refine Yqy (v:=.slice vp vs.length vcap) (y0:=c.mx) (y1:=c.my) rfl rfl Tryz.underlying98 j0 j1 rfl j2 j3 rfl hpo rfl ?c1 ?c2 ?c3 ?_;(case c1=>exact c0);(case c2=>exact c1);(case c3=>omega);intro q8 cap8 w8 ho8 hg8 hw8;have hV8:=(hg8.block V (Array.getElem?_eq_some_iff.1 HP.out.bv).1 (fun e=>by obtain⟨cur,hcur⟩:=Ykr hpo e.symm;exact Ygp HP.out.bv hcur (by decide) rfl)).trans HP.out.bv;have kv8:=Yab (o:=0) hV8 rfl;have f8:w8.frozen? ⟨V,0,none⟩=false:=Yai hV8;clear hV8))
 go_end0
 refine⟨rfl,_,HP.out.more (v:=(c.mx,c.my)) hg8 ho8,?_,?_⟩
 ·have g1:Yae [some b,some V,(Value.slice vp vs.length vcap).ownBlock] w x:=Yae.below (HB0.out.trans (HX.out.mono HB0.out.size));have g2:=g1.trans (M:=[some b]) (Yae.one HG2.out fun j _ e=>by rw[e];exact List.mem_singleton.2 rfl) fun j _ hm=>by rw[List.mem_singleton.1 hm];exact List.mem_cons_self ..
  have g3:=g2.trans (Yae.below (L:=[]) HBP.out) (by simp);have g4:=g3.trans (M:=[(Value.slice vp vs.length vcap).ownBlock]) (Yae.one hg8 fun j _ e=>by rw[e];exact List.mem_singleton.2 rfl) fun j _ hm=>by rw[List.mem_singleton.1 hm];exact List.mem_cons_of_mem _ (List.mem_cons_of_mem _ (List.mem_cons_self ..))
  exact g4.trans (M:=[some V]) (Yae.set _ (List.mem_singleton.2 rfl)) fun j _ hm=>by rw[List.mem_singleton.1 hm];exact List.mem_cons_of_mem _ (List.mem_cons_self ..)
 ·intro j hj;rcases hw8 j hj with h|h
  ·exact .inl h
  ·exact .inr (by have:=HBP.out.size;have:=HC.out;omega)
end
theorem Y9f {i:Nat}(k:Int)(hi:i≤1000):IntKind.i64.wrap ((i:Int)*Yjv k)=(i:Int)*Yjv k:=by
 obtain⟨B0,B1,B2,B3,B4⟩:=Ykg k;have h1:0≤(i:Int)*Yjv k:=Int.mul_nonneg (by omega) B2;have h2:(i:Int)*Yjv k≤1000*100:=Int.mul_le_mul (by omega) B3 B2 (by omega);exact Yif (by omega)
theorem Qie {inter:Bool}{N:Nat}{rs:List RowP}(h:Yde (Yed inter (N:Int)) 0 rs=true){i:Nat}(hi:i<rs.length):
  rs[i].cels.length=N∧(∀c∈rs[i].cels,Ybp inter c=true)∧(rs[i].head=true→i≠0∧∃a q:Nat,rs[i].id=(a:Int)∧rs[i].quant=(q:Int)∧a≤3∧1≤q∧q≤31):=by
 have h1:=Yih.1 h i hi;rw[Nat.zero_add] at h1;unfold Yed at h1;rw[Bool.and_eq_true,decide_eq_true_iff,Bool.and_eq_true] at h1;obtain⟨hc,hh,ha⟩:=h1;refine⟨by omega,List.all_eq_true.1 ha,fun hd=>?_⟩;rw[hd,if_pos rfl,decide_eq_true_iff] at hh;exact⟨hh.1,rs[i].id.toNat,rs[i].quant.toNat,by omega,by omega,by omega,by omega,by omega⟩
theorem Yz7 {inter:Bool}{k:Int}{rs:List RowP}(i:Nat)(R:List UInt8)(vs:List (Int×Int))(first:Int)(hi:i<rs.length):
  Ye1 inter k i R vs first (rs.drop i)=Ye1 inter k (i+1) (Yhd inter k (Yqj k i first rs[i]) (R++Yg2 i R.length rs[i]) vs rs[i].cels) (vs++Ydl rs[i].cels) (Yqj k i first rs[i]) (rs.drop (i+1)):=by
 rw[List.drop_eq_getElem_cons hi];exact Yz8 ..
set_option maxRecDepth 100000 in
set_option maxHeartbeats 8000000 in
theorem Qab {u w:World}{B b:Nat}{r:List UInt8}{N:Nat}(S:ShP)(p q:Option Addr)(ca cb:Nat)(hS:Yg9 u q S.rows)(ht:Ybh u.heap.size u)(hu:Below u.heap.size u w)(hN:u.heap.size≤b)(hB:B≤w.heap.size)(hw:Ycj w B b r)
  (h18:S.rows.length≤18)(hNN:0<N∧N≤352)(hm:Yde (Yed S.hd.inter (N:Int)) 0 S.rows=true)(hev:∀c∈Ygv S,∀k,k<6→(c.ev k).length≤1048576)(hlen:(Ye1 S.hd.inter S.hd.fmt 0 r [] 0 S.rows).length≤60000000000):
  Calls Tryz.prog 72 #[.pointer (some ⟨b,0,none⟩),.agg (Ya5 S.hd (.slice p S.hd.supp.length ca) (.slice q S.rows.length cb) S.zeros).toArray] w fun e w'=>e=.returned (.tuple #[])∧Ycj w' B b (Ye1 S.hd.inter S.hd.fmt 0 r [] 0 S.rows)∧w.grownBy w' (some b):=by
 have cf:=fun x=>Yim S.hd.fmt x;have hfa:Yd0 S.hd.fmt≤1000:=by have:=(Yje S.hd.fmt).1;have:=(Ykg S.hd.fmt).2.2.2.2;omega
 have wm:=fun(i:Nat) (hi:i≤1000)=>Y9f S.hd.fmt hi;have rm:=fun(i:Nat) (hi:i<S.rows.length)=>Qie hm hi;have rev:=fun(i:Nat) (hi:i<S.rows.length) c (hc:c∈S.rows[i].cels)=>hev c (List.mem_flatMap.2 ⟨_,List.getElem_mem hi,hc⟩);have hnx:=fun(i:Nat) (R:List UInt8) (vs:List (Int×Int)) (first:Int) (hi:i<S.rows.length)=>Yz7 (inter:=S.hd.inter) (k:=S.hd.fmt) i R vs first hi
 have hend:=fun(R:List UInt8) (vs:List (Int×Int)) (first:Int)=>(show Ye1 S.hd.inter S.hd.fmt S.rows.length R vs first (S.rows.drop S.rows.length)=R by rw[List.drop_length];exact Y5e ..);obtain⟨T,hT⟩:∃T,Ye1 S.hd.inter S.hd.fmt 0 r [] 0 S.rows=T:=⟨_,rfl⟩;rw[hT] at hlen ⊢;have hT0:Ye1 S.hd.inter S.hd.fmt 0 r [] 0 (S.rows.drop 0)=T:=hT
 have hle:∀(i:Nat) (R:List UInt8) (vs:List (Int×Int)) (first:Int) (rs:List RowP),Ye1 S.hd.inter S.hd.fmt i R vs first rs=T→R.length≤60000000000:=fun i R vs first rs h=>by
  rw[←h] at hlen;unfold Ye1 at hlen;rw[List.length_append] at hlen;omega
 have pc:=fun(x:World) (R:List UInt8) (hx:Ycj x B b R)=>Yz5 (w:=x) (n:=S.hd.supp.length) (m:=S.rows.length) (ca:=ca) (cb:=cb) S.hd p q S.zeros hx;obtain⟨zs,hZ⟩:∃zs,Ya5 S.hd (.slice p S.hd.supp.length ca) (.slice q S.rows.length cb) S.zeros=zs:=⟨_,rfl⟩;have z2:zs[2]? =some (.int .i64 S.hd.fmt):=by rw[←hZ];rfl
 have z3:zs[3]? =some (.bool S.hd.inter):=by rw[←hZ];rfl
 have z6:zs[6]? =some (.slice q S.rows.length cb):=by rw[←hZ];rfl
 have hzsz:(Tryz.prog.info? 39).map (·.size)=some zs.toArray.size:=by rw[show zs.toArray.size=8 by rw[←hZ];rfl];kernel_rfl
 rw[hZ] at pc ⊢;obtain⟨D,hD⟩:∃D,w.heap.size=D:=⟨_,rfl⟩;obtain⟨w1,hw1⟩:∃w1,w.alloc (.cells zs.toArray 39 (0,0))=w1:=⟨_,rfl⟩;have hb1:Below w.heap.size w w1:=by rw[←hw1];exact(Below.refl _ w).alloc (Nat.le_refl _) _
 have hs1:w1.heap.size=D+1:=by rw[←hw1,←hD];simp
 have hhD:w1.heap[D]? =some (.cells zs.toArray 39 (0,0)):=by rw[←hw1,←hD];exact heap_alloc_new w _
 have hwr1:=hw.below hb1;have hbD:b<D:=by rw[←hD];exact hw.lt
 obtain⟨Yr,HYRS,hzr⟩:=Ypk;obtain⟨Yc,HYC,hzc⟩:=Yf8;have huD:u.heap.size≤D:=by rw[←hD];exact hu.size
 have U:=Lib.hid (fun(x:World) (hx:Yae [some b] w x)=>((hu.trans (hx.under (N:=u.heap.size) (by omega) fun k hk=>by have e:=List.mem_singleton.1 hk;injection e with e;omega)):Below u.heap.size u x));generalize hfm:S.hd.fmt=k at *;generalize hin:S.hd.inter=inter at *;obtain⟨n,hln⟩:∃n,S.rows.length=n:=⟨_,rfl⟩;rw[hln] at h18;have k2:=Yab (o:=2) hhD z2
 have k6:∀x,Below w1.heap.size w1 x→x.cell? ⟨D,6,none⟩=some (.slice q n cb):=fun x hx=>by rw[←hln];exact Yab ((hx.block D (by omega)).trans hhD) z6
 have HW1:=Lib.hid hw1;have HD:=Lib.hid hD;have NR:=Lib.hid hln;have HRS:=Lib.hid hS;have HT0:=Lib.hid hT0;have K6:=Lib.hid k6;have HLE:=Lib.hid hle;have NX:=Lib.hid hnx;have HEND:=Lib.hid hend;have RM:=Lib.hid rm;have REV:=Lib.hid rev;have WM:=Lib.hid wm;have HTB:=Lib.hid ht;have HB:=Lib.hid hB;have Z3:=Lib.hid z3;have HB1:=Lib.hid hb1;have hgw1:Yae [some b] w w1:=Yae.below hb1
 clear hZ hw1 hD hS hT0 hle hnx hend rm rev wm ht hB z2 z3 z6 hu hm hev hlen hT hb1 hw
 go_enter Tryz.func72,Tryz.ntmps72
 go_wp2_with (with_reducible refine wpList_load_row rfl 39 _ rfl _ rfl 39 zs.toArray (0,0) _ (heap_alloc_new w _) Tryz.underlying39 rfl hzsz ?_)
 rw[HW1.out,HD.out];refine(pc _ _ hwr1).mono ?_;rintro e w2 ⟨W,Sb,V,A,rfl,hp2,hb2,l1,l2,l3,l4⟩;have k2':=(World.cell?_of_block (a:=⟨D,2,none⟩) (hb2.block D (by omega))).trans k2;have k6':=k6 _ hb2;have hg2:Yae [some b] w w2:=hgw1.trans (Yae.below (L:=[]) hb2) (by simp);have hsD:D<w2.heap.size:=by have:=hb2.size;omega
 have KD:=Lib.hid (fun(x:World) (hx:Yae [some b] w2 x)=>((hx.block D hsD (fun hm=>by have e:=List.mem_singleton.1 hm;injection e with e;omega)):x.heap[D]? =w2.heap[D]?));have HL:Hid (D≤W∧D≤Sb∧D≤V∧D≤A):=Lib.hid (by omega);clear k2 k6 hhD pc hwr1 hgw1 hb2 l1 l2 l3 l4 hs1
 go_wp2_with fail
 refine(cf _).mono ?_;rintro e x ⟨rfl,rfl⟩
 go_wp2
 go_loopw [7,24] (fun f t wr=>∃(i:Nat) (first:Int) (vv:Value) (vs:List (Int×Int)) (R:List UInt8),f=.int .i64 first∧t=.int .i64 (i:Int)∧i≤n∧Yf0 wr W Sb V A b B R zs k vv vs∧Hid (Ye1 inter k i R vs first (S.rows.drop i)=T)∧Yae [some b] w wr∧(∀j,vv.ownBlock=some j→D≤j)∧Hid (vs.length≤1000*i)) (fun _ t _=>n-(RowKit.intOf t).toNat)
 case atStart=>exact⟨0,0,_,[],r,rfl,rfl,Nat.zero_le _,hp2,HT0,hg2,(fun j hj=>by cases hj),Lib.hid (Nat.zero_le _)⟩
 case round=>
  clear hp2 hg2 k2' k6';obtain⟨i,first,vv,vs,R,rfl,rfl,hi,hp,hT,hg,hvv,hvl⟩:=hrel;by_cases hlt:i<n
  ·have t1:decide ((i:Int)<(n:Int))=true:=by simp;omega
   have hil:i<S.rows.length:=by rw[NR.out];exact hlt
   obtain⟨b1,o1,hq1,hlb1,hc1⟩:=Yz9 HRS.out (by rw[NR.out];omega);obtain⟨rq,cap,hq,hml,hcel,hat⟩:=hc1 i hil;have hTn:=NX.out i R vs first hil
   rw[hT.out] at hTn;obtain⟨RC,RCM,RH⟩:=RM.out i hil;have RE:=REV.out i hil;have wmi:=WM.out i (by omega);obtain⟨row,hrow⟩:∃row,S.rows[i]=row:=⟨_,rfl⟩;rw[hrow] at hml hcel hat hTn RC RCM RH RE;subst hq1;obtain⟨rs,hrs⟩:∃rs,[Value.bool row.head,.int .i64 row.id,.int .i64 row.quant,.slice rq row.cels.length cap]=rs:=⟨_,rfl⟩;have rl:rs.length=4:=by rw[←hrs];rfl
   have ro:rs.toArray.all (·.oneCell')=true:=by rw[←hrs];simp[Value.oneCell']
   have hrg:wr.rangeAt b1 (o1+i*4) rs:=fun k v hk=>by
    obtain⟨a0,a1,a2,a3⟩:=hat wr (U.out _ hg);rw[←hrs] at hk
    match k,hk with
    |0,hk=>injection hk with hk;subst hk;exact a0
    |1,hk=>injection hk with hk;subst hk;exact a1
    |2,hk=>injection hk with hk;subst hk;exact a2
    |3,hk=>injection hk with hk;subst hk;exact a3
   have HSR:(Tryz.prog.info? 46).map (·.size)=some rs.toArray.size:=by rw[show rs.toArray.size=4 from rl];kernel_rfl
   have HYR:Yr.size=rs.toArray.size:=by rw[HYRS];exact rl.symm
   obtain⟨K,hK⟩:∃K,wr.heap.size=K:=⟨_,rfl⟩;obtain⟨wB,hwB⟩:∃wB,wr.alloc (.cells rs.toArray 46 (0,0))=wB:=⟨_,rfl⟩;have hbB:Below wr.heap.size wr wB:=by rw[←hwB];exact(Below.refl _ wr).alloc (Nat.le_refl _) _
   have hhK:wB.heap[K]? =some (.cells rs.toArray 46 (0,0)):=by rw[←hwB,←hK];exact heap_alloc_new wr _
   have hsK:wB.heap.size=K+1:=by rw[←hwB,←hK];simp
   have KR:=Lib.hid (fun(x:World) (hx:wB.grownBy x (some b))=>(by
    have h:=(hx.block K (by omega) (fun e=>by injection e with e;have:=hp.wr.lt;omega)).trans hhK;rw[←hrs] at h;exact⟨Yab (o:=0) h rfl,Yab (o:=1) h rfl,Yab (o:=2) h rfl,Yab (o:=3) h rfl⟩:x.cell? ⟨K,0,none⟩=some (.bool row.head)∧x.cell? ⟨K,1,none⟩=some (.int .i64 row.id)∧x.cell? ⟨K,2,none⟩=some (.int .i64 row.quant)∧x.cell? ⟨K,3,none⟩=some (.slice rq row.cels.length cap)))
   have hpB:=hp.below hbB;have hgB:Yae [some b] w wB:=hg.trans (Yae.below (L:=[]) hbB) (by simp);have HWB:=Lib.hid hwB;have HKK:=Lib.hid hK;have HCEL:=Lib.hid hcel;have HTN:=Lib.hid hTn;have HRC:=Lib.hid RC;have HRCM:=Lib.hid RCM;have HRE:=Lib.hid RE;have HRL:=Lib.hid (HLE.out i R vs first _ hT.out);have hDK:D≤K:=by rw[←hK,←HD.out];exact hg.size
   have hbrefl:wB.grownBy wB (some b):=Yak (Below.refl _ _) _;obtain⟨q0,q1,q2,q3⟩:=KR.out _ hbrefl;clear hwB hK hrs hhK hcel hat hc1 hTn RC RCM RE hrow hT hp hg
   go_upto_if 30 with (first|(with_reducible refine Yjb rfl _ rfl b1 (o1+i*4) rfl rs hrg rl ?_)|(with_reducible refine Yao rfl 46 _ _ rfl rs.toArray Yr 46 rfl rfl HSR HYR ro ?_;rw[HWB.out,HKK.out]))
   go_cut [7] (fun f wx=>∃R',f=.int .i64 (Yqj k i first row)∧Yf0 wx W Sb V A b B R' zs k vv vs∧Hid (R'=R++Yg2 i R.length row)∧wB.grownBy wx (some b))
   case first=>
    cases hd:row.head with
    |false=>
     try rw[hd]
     go_wp2
     go_meet
     case rel=>exact⟨R,by unfold Yqj;rw[hd];rfl,hpB,Lib.hid (by unfold Yg2;rw[hd];exact(List.append_nil R).symm),hbrefl⟩
    |true=>
     obtain⟨hi0,ia,iq,ha,hqq,ha3,hq1,hq31⟩:=RH hd;have hpu:=fun(x:World) (hx:Ycj x B b R) (hz:B≤x.heap.size)=>Qhv x B b R i ia iq (by omega) hx (by have:=HRL.out;omega) hz;have hBx:B≤wB.heap.size:=by have:=hgB.size;have:=HB.out;omega
     rw[ha] at q1;rw[hqq] at q2;have HD2:=Lib.hid hd;have HA2:=Lib.hid ha;have HQ2:=Lib.hid hqq
     try rw[hd]
     clear hd ha hqq hi0 RH
     go_wp2_with fail
     refine(hpu _ hpB.wr hBx).mono ?_;rintro e w5 ⟨rfl,hw5,hg5⟩;have hp5:=hpB.wrote hg5 hw5
     go_wp2
     go_meet
     case rel=>exact⟨_,by unfold Yqj;rw[HD2.out];rfl,hp5,Lib.hid (by rw[Y3f];unfold Yg2;rw[HD2.out,if_pos rfl,HA2.out,HQ2.out,Int.toNat_natCast,Int.toNat_natCast]),hg5⟩
   case rest=>
    obtain⟨R',rfl,hp5,hR',hg5⟩:=hcut;obtain⟨wk,rfl⟩:∃x,x=wc:=⟨_,rfl⟩;obtain⟨-,-,-,q3⟩:=KR.out _ hg5;obtain⟨f,hf⟩:∃f,Yqj k i first row=f:=⟨_,rfl⟩
    have hTN:=HTN.out;rw[←hR'.out,hf] at hTN;rw[hf];have hgk:Yae [some b] w wk:=hgB.trans (M:=[some b]) (Yae.one hg5 fun j _ e=>by rw[e];exact List.mem_singleton.2 rfl) fun j _ h=>h;rw[HRC.out] at q3;have hml2:row.cels.length=N:=HRC.out;obtain⟨T2,hT2⟩:∃T2,Yhd inter k f R' vs row.cels=T2:=⟨_,rfl⟩;rw[hT2] at hTN;have hT20:Hid (Yhd inter k f R' vs (row.cels.drop 0)=T2):=Lib.hid hT2
    have HT2:=Lib.hid hTN;have HLT:Hid (T2.length≤60000000000):=Lib.hid (HLE.out _ _ _ _ _ hTN.symm);clear hpB hgB hbrefl hT2 hTN hR' hf q0 q1 q2 RH wmi hg5
    go_wp2
    go_loopw [44] (fun t wr=>∃(j:Nat) (vv2:Value) (vz:List (Int×Int)) (R2:List UInt8),t=.int .i64 (j:Int)∧j≤N∧Yf0 wr W Sb V A b B R2 zs k vv2 vz∧Hid (Yhd inter k f R2 vz (row.cels.drop j)=T2)∧Yae [some b] w wr∧(∀j,vv2.ownBlock=some j→D≤j)∧Hid (vz=vs++Ydl (row.cels.take j))) (fun t _=>N-(RowKit.intOf t).toNat)
    case atStart=>exact⟨0,vv,vs,R',rfl,Nat.zero_le _,hp5,hT20,hgk,hvv,Lib.hid (by simp[Ydl])⟩
    case round=>
     clear hp5 hT20 hgk hvv q3;obtain⟨j,vv2,vz,R2,rfl,hj,hp,hT3,hg,hvv,hvz⟩:=hrel;by_cases hjm:j<N
     ·have t2:decide ((j:Int)<(N:Int))=true:=by simp;omega
      have hjl:j<row.cels.length:=by rw[HRC.out];exact hjm
      obtain⟨b2,o2,hq2,hlb2,hcv⟩:=Ydz.each HCEL.out (by omega);obtain⟨cs,hV,hvc⟩:=hcv j hjl;have hl18:=hV.shape.1;have hone:=Ykq hV;have hrg:wr.rangeAt b2 (o2+j*18) cs:=fun k v hk=>hvc wr (U.out _ hg) k v hk;obtain⟨c,hcj⟩:∃c,row.cels[j]=c:=⟨_,rfl⟩;have hmem:c∈row.cels:=hcj▸List.getElem_mem hjl
      have hT4:Yhd inter k f R2 vz (c::row.cels.drop (j+1))=T2:=by rw[←hcj,←List.drop_eq_getElem_cons hjl];exact hT3.out
      rw[Yy3] at hT4;have hvz2:vz++[(c.mx,c.my)]=vs++Ydl (row.cels.take (j+1)):=by
       rw[hvz.out,List.take_succ_eq_append_getElem hjl,hcj];unfold Ydl;rw[List.map_append,List.append_assoc];rfl
      rw[hcj] at hV;have hvzl:vz.length≤1048575:=by
       have h1:=hvl.out;rw[hvz.out];unfold Ydl;rw[List.length_append,List.length_map,List.length_take];omega
      have hR2l:R2.length≤60000000000:=by
       have h1:=HLT.out;have h2:=congrArg List.length hT3.out;unfold Yhd at h2;rw[List.length_append] at h2;omega
      obtain⟨C,hC⟩:∃C,wr.heap.size=C:=⟨_,rfl⟩;obtain⟨wC,hwC⟩:∃wC,wr.alloc (.cells cs.toArray 77 (0,0))=wC:=⟨_,rfl⟩;have hhC:wC.heap[C]? =some (.cells cs.toArray 77 (0,0)):=by rw[←hwC,←hC];exact heap_alloc_new wr _
      have hbC:Below wr.heap.size wr wC:=by rw[←hwC];exact(Below.refl _ wr).alloc (Nat.le_refl _) _
      have hpC:=hp.below hbC;have hgC:Yae [some b] w wC:=hg.trans (Yae.below (L:=[]) hbC) (by simp);have p1:=Qaa (first:=f) hpC Z3.out (U.out _ hgC) (by omega) (by have:=hgC.size;have:=HB.out;omega) HTB.out hV (HRE.out c hmem) (HRCM.out c hmem) hR2l hvzl hfa;have HSV:(Tryz.prog.info? 77).map (·.size)=some cs.toArray.size:=by rw[show cs.toArray.size=18 from hl18];kernel_rfl
      have HYV:Yc.size=cs.toArray.size:=by rw[HYC];exact hl18.symm
      have HWC:=Lib.hid hwC;have HCC:=Lib.hid hC;have HT4:=Lib.hid hT4;have HVZ2:=Lib.hid hvz2;have hDC:D≤wC.heap.size:=by have:=hgC.size;have:=HD.out;omega
      have hpl:=hpC;have HGC:=Lib.hid hgC;subst hq2;clear hwC hC hV hvc hcv hT3 hT4 hvz hvz2 hp hg hbC hgC hcj hmem hvzl hR2l
      go_wp2_with (first|(with_reducible refine Yft rfl _ rfl b2 (o2+j*18) rfl cs hrg hl18 ?_)|(with_reducible refine Yao rfl 77 _ _ rfl cs.toArray Yc 77 rfl rfl HSV HYV hone ?_;rw[HWC.out,HCC.out])|(with_reducible refine wpList_load_row rfl 77 _ rfl C rfl 77 cs.toArray (0,0) _ hhC Tryz.underlying77 rfl HSV ?_))
      refine p1.mono ?_;rintro e w6 ⟨rfl,vv6,hp6,hg6,hv6⟩
      go_wp2
      go_roundw
      case rel=>
       refine⟨j+1,vv6,_,_,by go_num,by omega,hp6,HT4,HGC.out.trans hg6 fun t ht hm=>?_,fun t ht=>?_,HVZ2⟩
       ·have h:=HD.out;have hl:=HL.out;rcases List.mem_cons.1 hm with e|hm
        ·rw[e];exact List.mem_singleton.2 rfl
        ·rcases List.mem_cons.1 hm with e|hm
         ·injection e with e;omega
         ·have e:=List.mem_singleton.1 hm;have:=hvv t e.symm;omega
       ·rcases hv6 t ht with h|h
        ·exact hvv t h
        ·omega
      case measure=>simp[RowKit.intOf];omega
     ·obtain rfl:N=j:=by omega
      have t2:decide ((N:Int)<(N:Int))=false:=by simp
      have hd0:row.cels.drop N=[]:=by rw[←HRC.out,List.drop_length]
      have htk:row.cels.take N=row.cels:=by rw[←HRC.out,List.take_length]
      have hR3:R2=T2:=by
       have h1:=hT3.out;rw[hd0,Y3t] at h1;exact h1
      have hvz3:vz=vs++Ydl row.cels:=by rw[hvz.out,htk]
      have hT5:Hid (Ye1 inter k (i+1) R2 vz f (S.rows.drop (i+1))=T):=Lib.hid (by rw[hR3,hvz3];exact HT2.out.symm);have hvl2:Hid (vz.length≤1000*(i+1)):=Lib.hid (by
       have h1:=hvl.out;rw[hvz3];unfold Ydl;rw[List.length_append,List.length_map,HRC.out];omega)
      clear hd0 htk hR3 hvz3 hvz hT3
      go_wp2
      go_roundw
      case rel=>exact⟨i+1,f,vv2,vz,R2,rfl,by go_num,by omega,hp,hT5,hg,hvv,hvl2⟩
      case measure=>simp[RowKit.intOf];omega
  ·obtain rfl:n=i:=by omega
   have t1:decide ((n:Int)<(n:Int))=false:=by simp
   have hR:R=T:=by
    have h1:=hT.out;rw[←NR.out,HEND.out] at h1;exact h1
   subst hR
   go_wp2
   go_end0
   exact⟨rfl,hp.wr,hg.lone fun j _ hm=>by have e:=List.mem_singleton.1 hm;injection e⟩
def Qjw (u:World)(S:ShP)(vs:List Value):Prop:=ShV u S vs∧S.rows.length≤4611686018427387904∧∀c∈Ygv S,∀k,k<6→(c.ev k).length≤1048576
theorem Qjw.sizes {u:World}{S:ShP}{vs:List Value}(h:Qjw u S vs):(Tryz.prog.info? 39).map (·.size)=some vs.toArray.size∧vs.toArray.size=8∧vs.toArray.all (·.oneCell')=true:=by
 obtain⟨p,q,ca,cb,rfl,-⟩:=h.1;exact⟨by rw[show (Ya5 S.hd (.slice p S.hd.supp.length ca) (.slice q S.rows.length cb) S.zeros).toArray.size=8 from rfl];kernel_rfl,rfl,Ykv ..⟩
section
variable {u w:World}{B b:Nat}{r:List UInt8}{S:ShP}{vs:List Value}
theorem Ymk (hS:Qjw u S vs)(ht:Ybh u.heap.size u)(hu:Below u.heap.size u w):Calls Tryz.prog 20 #[.agg vs.toArray] w fun e w'=>e=.returned (.int .i64 (Yd5 S))∧Below w.heap.size w w':=by
 obtain⟨⟨p,q,ca,cb,rfl,hsl,hrl,hsu,hrw⟩,hn,hev⟩:=hS;refine Yxl S p q ca cb w hsl hn (hsu.below hu) (hrw.below hu) hev fun c p n k x hx hc=>?_;have h:=ht.below (hu.trans (hx.mono hu.size));exact Yn8 S.hd.inter c p n k x hc h.tcoef h.steps
set_option maxRecDepth 100000 in
set_option maxHeartbeats 4000000 in
theorem Qfg (hS:Qjw u S vs)(ht:Ybh u.heap.size u)(hu:Below u.heap.size u w)(hN:u.heap.size≤b)(hB:B≤w.heap.size)(hw:Ycj w B b r)(hr:r.length≤30000000000)(h0:Yd5 S=0):
  Calls Tryz.prog 37 #[.pointer (some ⟨b,0,none⟩),.agg vs.toArray] w fun e w'=>e=.returned (.int .i64 0)∧Ycj w' B b (Yu4 r S)∧w.grownBy w' (some b):=by
 have hsz:=hS.sizes.1;obtain⟨hm,hz,⟨hR,h18⟩,N,hNk,hNN,hrows⟩:=Yng h0;have hRm:=Yw4 h0 r;have hLm:=Y9q h0 r;have hHm:(Y4w r S).length≤r.length+400:=by
  have:=(Yd2.1 hm).2.2.1;rw[Ygz,List.length_append,Ybb,Yff];unfold gap;omega
 have hst:=Ylq r S;have cch:=fun(x:World) (hx:Below u.heap.size u x)=>Ymk hS ht hx;obtain⟨⟨p,q,ca,cb,hvs,hsl,hrl,hsu,hrw⟩,hn,hev⟩:=hS;have csp:=fun(x:World) (hx:Below u.heap.size u x) (hwx:Ycj x B b r) (hBx:B≤x.heap.size)=>Qa5 x B b r S.hd p ca (.slice q S.rows.length cb) S.zeros (fun y hy=>hsu.below (hx.grown hy hx.size (fun j hj=>by injection hj with hj;omega))) hm hwx (by omega) hBx
 have cpr:=fun(x:World) (hx:Below u.heap.size u x) (hwx:Ycj x B b (Y4w r S)) (hBx:B≤x.heap.size)=>Qab (N:=N) S p q ca cb hrw ht hx hN hBx hwx h18 hNN hrows hev (by rw[Yr1];omega);rw[←hvs] at csp cpr;rw[h0] at cch;have z7:vs[7]? =some (.int .i64 S.zeros):=by rw[hvs];rfl
 obtain⟨z,hzz⟩:∃z:Nat,S.zeros=(z:Int):=⟨S.zeros.toNat,by omega⟩;rw[hzz] at z7 hz;rw[hzz,Int.toNat_natCast] at hst;have cfi:=fun(x:World) (hwx:Ycj x B b (Y12 r S)) (hBx:B≤x.heap.size)=>Yof x B b (Y12 r S) hwx (by omega) hBx;have hRT:Ye1 S.hd.inter S.hd.fmt 0 (Y4w r S) [] 0 S.rows=Y12 r S:=Yr1 r S;rw[hRT] at cpr;have hOH:Yc3 r 0++Ydi S.hd=Y4w r S:=rfl;rw[hOH] at csp
 obtain⟨R2,hR2⟩:∃R2,Y12 r S++List.replicate (gap (Y12 r S).length) 48=R2:=⟨_,rfl⟩;rw[hR2] at cfi hst;have hR2l:R2.length≤32000000000:=by rw[←hR2,List.length_append,List.length_replicate];unfold gap;omega
 have cze:=fun(x:World) (j:Nat) (hj:j≤262144) (hwx:Ycj x B b (R2++List.replicate (8*j) 48)) (hBx:B≤x.heap.size)=>Yc6 x B b _ 0 8 hwx (by decide) (by decide) (by rw[List.length_append,List.length_replicate];omega) hBx;have h8:∀j:Nat,R2++List.replicate (8*j) 48++Yav (0:Int).toNat (8:Int).toNat=R2++List.replicate (8*(j+1)) 48:=fun j=>by
  rw[show Yav (0:Int).toNat (8:Int).toNat=List.replicate 8 48 from Ydc 8,List.append_assoc,List.replicate_append_replicate];rfl
 generalize Y12 r S=R1 at *;generalize Y4w r S=R0 at *;generalize Yu4 r S=RL at *;obtain⟨D,hD⟩:∃D,w.heap.size=D:=⟨_,rfl⟩;obtain⟨A,hA⟩:∃A,vs.toArray=A:=⟨_,rfl⟩;obtain⟨w1,hw1⟩:∃w1,w.alloc (.cells A 39 (0,0))=w1:=⟨_,rfl⟩;have hb1:Below w.heap.size w w1:=by rw[←hw1];exact(Below.refl _ w).alloc (Nat.le_refl _) _
 have hs1:w1.heap.size=D+1:=by rw[←hw1,←hD];simp
 have hhD:w1.heap[D]? =some (.cells A 39 (0,0)):=by rw[←hw1,←hD];exact heap_alloc_new w _
 have hwr1:=hw.below hb1;have hbD:b<D:=by rw[←hD];exact hw.lt
 rw[hA] at hsz csp cpr cch ⊢;have U:=Lib.hid (fun(x:World) (hx:w.grownBy x (some b))=>(⟨hu.grown hx hu.size (fun j hj=>by injection hj with hj;omega),Nat.le_trans hB hx.size⟩:Below u.heap.size u x∧B≤x.heap.size));have KD:=Lib.hid (fun(x:World) (hx:w1.grownBy x (some b))=>((hx.block D (by omega) (fun e=>by injection e with e;omega)).trans hhD:x.heap[D]? =some (.cells A 39 (0,0))))
 have K7:=Lib.hid (fun(x:World) (hx:w1.grownBy x (some b))=>(by
  have h:=(hx.block D (by omega) (fun e=>by injection e with e;omega)).trans hhD;rw[←hA] at h;exact Yab (o:=7) h z7:x.cell? ⟨D,7,none⟩=some (.int .i64 (z:Int))))
 have W1:=Lib.hid (Yak hb1 (some b));have HW1:=Lib.hid hw1;have HD:=Lib.hid hD;have HST:=Lib.hid hst;have H8:=Lib.hid h8;have hz2:z≤262144:=by omega
 have hk1:=KD.out _ (Yak (Below.refl _ _) _);have g11:w1.grownBy w1 (some b):=Yak (Below.refl _ _) _;have cc1:=cch w1 (U.out _ W1.out).1;clear hvs hsl hrl hsu hrw hn hev z7 hst h8 hw1 hD hb1 hs1 hhD hw hu hR hNk hNN hrows h0 hRm hLm hHm hm hz hzz hRT hOH hR2 hR2l hA cch hr hB ht
 go_enter Tryz.func37,Tryz.ntmps37
 go_wp2_with (with_reducible refine wpList_load_row rfl 39 _ rfl _ rfl 39 A (0,0) _ (heap_alloc_new w _) Tryz.underlying39 rfl hsz ?_)
 rw[HW1.out,HD.out];refine cc1.mono ?_;rintro e w2 ⟨rfl,hb2⟩;have hwr2:=hwr1.below hb2;have g12:=Yac g11 (Yak hb2 (some b));have hk2:=KD.out _ g12;obtain⟨hu2,hB2⟩:=U.out _ (Yac W1.out g12);have c2:=csp w2 hu2 hwr2 hB2;clear hwr1 hk1 hb2 hwr2 csp hu2 hB2 g11
 go_wp2_with (with_reducible refine wpList_load_row rfl 39 _ rfl D rfl 39 A (0,0) _ hk2 Tryz.underlying39 rfl hsz ?_)
 refine c2.mono ?_;rintro e w3 ⟨rfl,hwr3,hg3⟩;have g13:=Yac g12 hg3;have hk3:=KD.out _ g13;obtain⟨hu3,hB3⟩:=U.out _ (Yac W1.out g13);have c3:=cpr w3 hu3 hwr3 hB3;clear hk2 c2 hg3 g12 hu3 hB3 cpr hwr3
 go_wp2_with (with_reducible refine wpList_load_row rfl 39 _ rfl D rfl 39 A (0,0) _ hk3 Tryz.underlying39 rfl hsz ?_)
 refine c3.mono ?_;rintro e w4 ⟨rfl,hwr4,hg4⟩;have g14:=Yac g13 hg4;obtain⟨hu4,hB4⟩:=U.out _ (Yac W1.out g14);have c4:=cfi w4 hwr4 hB4;clear hk3 c3 hg4 g13 hu4 hB4 cfi hwr4
 go_wp2_with fail
 refine c4.mono ?_;rintro e w5 ⟨rfl,hwr5,hg5⟩;have g15:=Yac g14 hg5;have k7:=K7.out _ g15;have gw5:=Yac W1.out g15;clear c4 hg5 g14 g15;have hwr5':Ycj w5 B b (R2++List.replicate (8*0) 48):=by rw[Nat.mul_zero];exact(List.append_nil R2).symm▸hwr5
 clear hwr5
 go_wp2
 go_loopw [23] (fun t wr=>∃j:Nat,t=.int .i64 (j:Int)∧j≤z∧Ycj wr B b (R2++List.replicate (8*j) 48)∧w.grownBy wr (some b)) (fun t _=>z-(RowKit.intOf t).toNat)
 case atStart=>exact⟨0,rfl,Nat.zero_le _,hwr5',gw5⟩
 case round=>
  clear hwr5' gw5 k7;obtain⟨j,rfl,hj,hwr,hg⟩:=hrel;by_cases hlt:j<z
  ·have t1:decide ((j:Int)<(z:Int))=true:=by simp;omega
   have c5:=cze wr j (by omega) hwr (U.out _ hg).2;rw[H8.out] at c5;clear hwr
   go_wp2_with fail
   refine c5.mono ?_;rintro e w6 ⟨rfl,hwr6,hg6⟩;have hg7:=Yac hg hg6;clear c5 hg hg6
   go_wp2
   go_roundw
   case rel=>exact⟨j+1,by go_num,by omega,hwr6,hg7⟩
   case measure=>simp[RowKit.intOf];omega
  ·obtain rfl:z=j:=by omega
   have t1:decide ((z:Int)<(z:Int))=false:=by simp
   rw[←HST.out] at hwr
   go_wp2
   go_ret
   exact⟨rfl,hwr,hg⟩
end
def exSA:Cel:={Yma with kind:=3,dc:=fun _=>9}
def exS1:ShP:=⟨⟨0,0,6,false,5,[]⟩,[⟨false,0,0,[exSA,exSA]⟩,⟨false,0,0,[exSA,exSA]⟩],0⟩
theorem Yz1 (w:World)(c:Cel)(hm:(Lit.int .i64 c.mx).wf=true∧(Lit.int .i64 c.my).wf=true)(h:∀i,i<6→c.ev i=[]):Y6l w c (Ybd c nilS):=
 ⟨fun _=>none,fun _=>0,Y3m fun i hi=>by rw[h i hi];rfl,hm,fun i hi=>by rw[h i hi];exact⟨Nat.zero_le _,.inl rfl⟩⟩
theorem Qfs {w:World}{b:Nat}{c d:Cel}(hc:(Lit.int .i64 c.mx).wf=true∧(Lit.int .i64 c.my).wf=true)(hd:(Lit.int .i64 d.mx).wf=true∧(Lit.int .i64 d.my).wf=true)(ec:∀i,i<6→c.ev i=[])(ed:∀i,i<6→d.ev i=[])
  (h:w.heap[b]? =some (.cells (Ybd c nilS++Ybd d nilS).toArray 77 (0,0))):Yjy w (some ⟨b,0,none⟩) [c,d]:=by
 refine .inr ⟨b,0,rfl,(Array.getElem?_eq_some_iff.1 h).1,fun i hi=>?_⟩
 match i,hi with
 |0,_=>
  refine⟨Ybd c nilS,Yz1 w c hc ec,fun j v hj=>?_⟩;have hl:j<18:=(List.getElem?_eq_some_iff.1 hj).1;rw[Nat.zero_mul,Nat.zero_add];exact Yab h (by rw[List.getElem?_append_left hl];exact hj)
 |1,_=>
  refine⟨Ybd d nilS,Yz1 w d hd ed,fun j v hj=>?_⟩;exact Yab h (by rw[List.getElem?_append_right (by show 18≤0+1*18+j;omega),show 0+1*18+j-(Ybd c nilS).length=j by show 0+1*18+j-18=j;omega];exact hj)
theorem Qft {w:World}{b b1 b2:Nat}{l m:List Cel}(h:w.heap[b]? =some (.cells #[.bool false,.int .i64 0,.int .i64 0,.slice (some ⟨b1,0,none⟩) 2 2,.bool false,.int .i64 0,.int .i64 0,.slice (some ⟨b2,0,none⟩) 2 2] 46 (0,0)))
  (hl:l.length=2)(hm:m.length=2)(h1:Yjy w (some ⟨b1,0,none⟩) l)(h2:Yjy w (some ⟨b2,0,none⟩) m):Yg9 w (some ⟨b,0,none⟩) [⟨false,0,0,l⟩,⟨false,0,0,m⟩]:=by
 have h':w.heap[b]? =some (.cells [.bool false,.int .i64 0,.int .i64 0,.slice (some ⟨b1,0,none⟩) 2 2,.bool false,.int .i64 0,.int .i64 0,.slice (some ⟨b2,0,none⟩) 2 2].toArray 46 (0,0)):=h;refine .inr ⟨b,0,rfl,(Array.getElem?_eq_some_iff.1 h).1,fun i hi=>?_⟩
 match i,hi with
 |0,_=>
  refine⟨[.bool false,.int .i64 0,.int .i64 0,.slice (some ⟨b1,0,none⟩) 2 2],⟨some ⟨b1,0,none⟩,2,(by show _=[Value.bool false,.int .i64 0,.int .i64 0,.slice _ l.length 2];rw[hl]),(fun h=>by cases h),(by show l.length≤_;rw[hl];decide),h1⟩,fun j v hj=>?_⟩
  match j,hj with
  |0,hj|1,hj|2,hj|3,hj=>injection hj with hj;subst hj;exact Yab h' rfl
 |1,_=>
  refine⟨[.bool false,.int .i64 0,.int .i64 0,.slice (some ⟨b2,0,none⟩) 2 2],⟨some ⟨b2,0,none⟩,2,(by show _=[Value.bool false,.int .i64 0,.int .i64 0,.slice _ m.length 2];rw[hm]),(fun h=>by cases h),(by show m.length≤_;rw[hm];decide),h2⟩,fun j v hj=>?_⟩
  match j,hj with
  |0,hj|1,hj|2,hj|3,hj=>injection hj with hj;subst hj;exact Yab h' rfl
theorem Yp6 {P:Program}{ops:Array Oper}{rest:List Oper}{op:Oper}{a:Act}{w:World}{Q:Exit→Act→World→Prop}(hgd:op.guard=none)(ty:TypeId)(x y:Operand)(ho:op.op=.store ty x y)
  (Z old:Array Value)(T:TypeId)(N:Nat)(hN:w.heap.size=N)(hx:a.eval x=.pointer (some ⟨N,0,none⟩))(hy:a.eval y=.agg Z)(hi:(P.info? ty).map (·.size)=some Z.size)(hs:old.size=Z.size)(h1:Z.all (·.oneCell')=true)
  (h:wpList P ops Q rest (a.put op.dst undef) (w.alloc (.cells Z T (0,0)))):wpList P ops Q (op::rest) a (w.alloc (.cells old T (0,0))):=by
 subst hN;exact Yao hgd ty x y ho Z old T hx hy hi hs h1 h
theorem Yge (w:World)(o:Obj):∃w',w.alloc o=w'∧w'.heap.size=w.heap.size+1∧w'.heap[w.heap.size]? =some o∧Below w.heap.size w w':=
 ⟨_,rfl,by simp,heap_alloc_new w _,(Below.refl _ w).alloc (Nat.le_refl _) _⟩
end Go.Proofs.YtjjmalchelniiaaGreatDoor