/- No condition. -/
import Derived.Test.YtdnjefldijjgdaaDoorRebuildSumsMa
import Derived.Test.YtdnjefldijjgdaaDoorRebuildSumsMe
import Derived.Test.YtdnjefldijjgdaaDoorRebuildSumsMh
import Derived.Test.YtdnjefldijjgdaaDoorRebuildSumsMu
import Derived.Test.YtdnjefldijjgdaaDoorRebuildSumsMv
import Derived.Test.YtdnjefldijjgdaaDoorRebuildSumsMw
import Derived.Laws.OwnMore
import Derived.Deep.Slices
import Derived.Deep.MidRow
namespace Go.Proofs.YtdnjefldijjgdaaDoor
open Go.RowKit Go.Lib Go.ChangeShapes Go.WideShapes Go.ChangeAt
section
variable {H:Type}{enc:TypeId×Value→H}{P:Program}
end
theorem Ykn.slices {w:World}{v:Nat→Value}{n:Nat→Nat}{f:Nat→Nat→Int}(h:Ykn w v n f):∀p,p<3→∃a c,v p=.slice a (n p) c:=fun p hp=>by
 obtain⟨a,c,e,_⟩:=h p hp;exact⟨a,c,e⟩
end Go.Proofs.YtdnjefldijjgdaaDoor
namespace Go.Proofs.YtdnjefldijjgdaaDoor
open Go.RowKit Go.Lib
theorem Ymc (g:Nat→Int)(t:Nat):Yb2 (Ya7 g t) t (g t)=Ya7 g (t+1):=rfl
theorem Yqn {w:World}{B t:Nat}{g:Nat→Int}(h:w.heap[B]? =some (ptO (Ya7 g t))):(w.setCell ⟨B,t,none⟩ (.int .i64 (g t))).heap[B]? =some (ptO (Ya7 g (t+1))):=by
 have:=Yei (w:=w) (B:=B) (i:=t) (n:=384) (T:=24) (f:=Ya7 g t) (g t) h;rw[Ymc] at this;exact this
def Ye5 (b:Nat)(v:Int):Int:=if b<4 then v else Ygx v
def Ylu (k:Int)(m b:Nat)(v:Int):Nat:=(16*(col k m b:Int)+Ye5 b v).toNat
def Ymt (k:Int)(m b:Nat)(v:Int):Nat:=(16*(lin k m b:Int)+Ye5 b v).toNat
def Ycd (k:Int)(m:Nat)(f:Nat→Nat→Int)(u v:Int):Nat→Int:=fun s=>Yjk (f (plc (s / 64))) (wid k (plc (s / 64))) (Ylu k m (s / 64) u) (Ymt k m (s / 64) v) (s%64)
theorem Yjp {c m:Nat}{v:Int}(h:Ybr c m v=true):0≤16*(c:Int)+Ygx v∧16*(c:Int)+Ygx v+14≤16*(m:Int)-2:=by
 obtain⟨⟨h1,h2⟩,h3,h4⟩:=Yc2.1 h;rw[Ypa (by omega) (by omega)];unfold Yh7
 split <;> split <;> omega
theorem Ypk {W H x y:Nat}(hW:0<W)(hH:0<H)(hx:x≤2*W-2)(hy:y≤2*H-2):y / 2*W+x / 2+y%2*W+x%2<W*H:=by
 have h:(y / 2+y%2+1)*W≤H*W:=Nat.mul_le_mul_right _ (by omega);rw[Nat.add_mul,Nat.add_mul,Nat.one_mul,Nat.mul_comm H] at h;omega
theorem Yiv {c m b r:Nat}{v:Int}(h:Ybr c m v=true)(hr:r≤1)(hb:b<6):
  0≤16*((if b<4 then 2*c+r else c:Nat):Int)+Ye5 b v∧16*((if b<4 then 2*c+r else c:Nat):Int)+Ye5 b v+14≤2*((if plc b=0 then 16*m else 8*m:Nat):Int)-2:=by
 have h1:=Yc2.1 h;have h2:=Yjp h;unfold Ye5 plc;by_cases h4:b<4
 ·simp only[if_pos h4,if_true];omega
 ·simp only[if_neg h4,if_neg (show ¬ b-3=0 by omega)];omega
theorem Ypw {k:Int}{m b:Nat}{u v:Int}(hm:m<Ycs k)(hu:Ybr (m%acr k) (acr k) u=true)(hv:Ybr (m / acr k) (dow k) v=true)(hb:b<6):
  16*(col k m b:Int)+Ye5 b u=(Ylu k m b u:Int)∧16*(lin k m b:Int)+Ye5 b v=(Ymt k m b v:Int)∧Ylu k m b u≤9000∧Ymt k m b v≤9000∧InT (siz k (plc b)) (wid k (plc b)) (Ylu k m b u) (Ymt k m b v):=by
 obtain⟨h0,h1,h2⟩:=Yca hm;obtain⟨-,-,-,-,m1,m2⟩:=Ych k;have c1:0≤16*(col k m b:Int)+Ye5 b u∧16*(col k m b:Int)+Ye5 b u+14≤2*(wid k (plc b):Int)-2:=Yiv (r:=b%2) hu (by omega) hb;have c2:0≤16*(lin k m b:Int)+Ye5 b v∧16*(lin k m b:Int)+Ye5 b v+14≤2*(hei k (plc b):Int)-2:=by
  have:=Yiv (r:=b / 2) (b:=b) hv;by_cases h4:b<4
  ·exact Yiv (r:=b / 2) hv (by omega) hb
  ·have h:=Yiv (r:=0) (b:=b) hv (by omega) hb;unfold lin hei;simp only[if_neg h4] at h ⊢;exact h
 obtain⟨w1,w2⟩:=Yeg k (plc b);have e1:16*(col k m b:Int)+Ye5 b u=(Ylu k m b u:Int):=by unfold Ylu;omega
 have e2:16*(lin k m b:Int)+Ye5 b v=(Ymt k m b v:Int):=by unfold Ymt;omega
 rw[e1] at c1;rw[e2] at c2;refine⟨e1,e2,by omega,by omega,fun i hi=>?_⟩;have hh:siz k (plc b)=wid k (plc b)*hei k (plc b):=rfl;rw[hh];have q1:i%8≤7:=by omega
 have q2:i / 8≤7:=by omega
 exact Ypk (by omega) (by omega) (by omega) (by omega)
theorem Yjz (k:Int)(m:Nat)(f:Nat→Nat→Int)(u v:Int)(b:Nat):∀i,i<64→Yjk (f (plc b)) (wid k (plc b)) (Ylu k m b u) (Ymt k m b v) i=Ycd k m f u v (64*b+i):=fun i hi=>by
 unfold Ycd;rw[show (64*b+i) / 64=b by omega,show (64*b+i)%64=i by omega]
set_option maxRecDepth 1000000 in
set_option maxHeartbeats 8000000 in
theorem Yl9 (k:Int)(v:Nat→Value)(n:Nat→Nat)(f:Nat→Nat→Int)(m:Nat)(a b:Int)(w:World)(h:Ykn w v n f)(hr:Ycf k n=true)(hm:m<Ycs k)(hy:Ymz k m a b=true):
  Calls Tryd.prog 22 #[.agg (frA k v),.int .i64 (m:Int),.agg (Ye6 a b)] w fun e w'=>e=.returned (.tuple #[.agg (arn 384 (Ycd k m f a b)),.int .i64 0])∧Below w.heap.size w w':=by
 obtain⟨B,wA,wB,wC,wD,hB,hwA,hwB,hwC,hwD,hzA,hzB,hzC,hzD,hD0,hD1,hD2,hD3,hbD⟩:=Ynw w (.cells (frA k v) 31 (0,0)) (.cells (Ye6 a b) 32 (0,0)) (.cells (arn 384 fun _=>0) 24 (0,0)) (.cells (arn 384 fun _=>0) 24 (0,0));obtain⟨-,hu,hv⟩:=Yi3.1 hy;rw[Int.toNat_natCast] at hu hv;have hu2:=Yc2.1 hu;have hv2:=Yc2.1 hv
 replace hD3:wD.heap[B+3]? =some (ptO (Ya7 (Ycd k m f a b) 0)):=hD3
 have cR:=Yd3 k v n wD h.slices;rw[hr] at cR;have cH:∀w,Calls Tryd.prog 30 #[.int .i64 k,.int .i64 (m:Int)] w fun e w'=>e=.returned (.bool true)∧w=w':=fun w=>(Yeu k m w).mono fun e y h=>⟨h.1.trans (by rw[Yge.2 ⟨by omega,by simpa using hm⟩]),h.2⟩;have cM:=fun w=>Yi4 k m a b w;rw[hy] at cM;have cC:=fun w=>Ydc k w;obtain⟨e1,e2,-⟩:=Ych k;rw[←e1,←e2] at cC;clear e1 e2
 have HF:=Lib.hid (fun(x:World) (hx:Below B w x)=>h.below (by rw[hB];exact hx));have HV:=Lib.hid (Yfu.1 hr).2;have HO:=Lib.hid (fun p (hp:p<3) x=>Yl4 k v p x hp (fun p hp=>by obtain⟨a,c,h⟩:=h.slices p hp;exact⟨a,n p,c,h⟩));obtain⟨r1,r2,r3,z0,m1,m2,m3,m4⟩:=Yix hm;have HT:=Lib.hid (fun t (ht:t<6) (x:World) (hx:Below B w x) c (lo:Nat) (hc:Yb3 x lo c (v (plc t)) (wid k (plc t)))=>(by
  obtain⟨e1,e2,e3,e4,e5⟩:=Ypw (b:=t) hm hu hv ht;have hp:=Yob ht;have en:=(Yfu.1 hr).2 _ hp;have hs:=Yja k (plc t);obtain⟨h1,h2,-⟩:=Yca hm;have hc1:=Ynj hm ht;have hl1:=Yny hm ht;have hw1:=Yeg k (plc t)
  exact Ykg c (v (plc t)) (wid k (plc t)) (n (plc t)) (col k m t) (lin k m t) (Ylu k m t a) (Ymt k m t b) (f (plc t)) (Ye5 t a) (Ye5 t b) x lo hc (h.below (by rw[hB];exact hx) _ hp) (by omega) (by omega) (by omega) e1 e2 e3 e4 (by rw[en];exact e5):
   Calls Tryd.prog 33 #[c,.int .i64 (col k m t:Int),.int .i64 (lin k m t:Int),.agg (Ye6 (Ye5 t a) (Ye5 t b))] x fun e w'=>e=.returned (.agg (Yav (Yjk (f (plc t)) (wid k (plc t)) (Ylu k m t a) (Ymt k m t b))))∧Below x.heap.size x w'))
 have HPB:=Lib.hid (fun t=>Yjz k m f a b t);have hzp:=Ycm;have HSX:=Yed Ygd k v;have HS2:=Ycx a b;have HPS:=fun g=>Ybc g;have HYS:(arn 384 fun _=>0).size=384:=Yah _ _;obtain⟨X,hX⟩:∃X,frA k v=X:=⟨_,rfl⟩;have hD0':wD.heap[B]? =some (.cells X 31 (0,0)):=by rw[←hX];exact hD0
 replace hD0:wD.heap[B]? =some (frO 31 k v):=hD0
 have ck:=Yc1 hD0;rw[hX] at cR hwA HSX ⊢;rw[hX] at HO;obtain⟨Y,hY⟩:∃Y,(arn 384 fun _=>0)=Y:=⟨_,rfl⟩;rw[hY] at hwC hwD hzp HYS hD2;obtain⟨Z,hZ⟩:∃Z,Ye6 a b=Z:=⟨_,rfl⟩;rw[hZ] at hwB HS2 hD1 cM ⊢;have HX:=Lib.hid hX;have HY:=Lib.hid hY;have HZ:=Lib.hid hZ;have HWA:=Lib.hid hwA;have HWB:=Lib.hid hwB;have HWC:=Lib.hid hwC;have HWD:=Lib.hid hwD;have HB:=Lib.hid hB
 clear hX hY hZ hwA hwB hwC hwD hB h hr hu hv hy
 go_enter Tryd.func22,Tryd.ntmps22
 go_wp2_with (rw[HWA.out,HB.out,HWB.out,HWC.out,HWD.out];with_reducible refine wpList_load_row rfl 31 _ rfl B rfl 31 X (0,0) _ hD0' Tryd.underlying31 rfl HSX ?_)
 refine cR.mono ?_;rintro e w1 ⟨rfl,hb1⟩;have h0:=(hb1.block B (by omega)).trans hD0;have h1:=(hb1.block (B+1) (by omega)).trans hD1;have h2:=(hb1.block (B+2) (by omega)).trans hD2;have h3:=(hb1.block (B+3) (by omega)).trans hD3;have hbw:=hbD.trans (hb1.mono (by omega));have hz1:B+4≤w1.heap.size:=by have:=hb1.size;omega
 replace ck:=Yc1 h0
 clear hb1 hbD hD0 hD0' hD1 hD2 hD3 hzA hzB hzC hzD cR
 go_wp2_with (first|(with_reducible refine(cH _).mono ?_;rintro e x ⟨rfl,rfl⟩)|(with_reducible refine(cC _).mono ?_;rintro e x ⟨rfl,rfl⟩)|(with_reducible refine wpList_load_row rfl 32 _ rfl (B+1) rfl 32 Z (0,0) _ h1 Tryd.underlying32 rfl HS2 ?_))
 refine(cM _).mono ?_;rintro e w2 ⟨rfl,hb1⟩
 replace h0:=(hb1.block B (by omega)).trans h0
 replace h1:=(hb1.block (B+1) (by omega)).trans h1
 replace h2:=(hb1.block (B+2) (by omega)).trans h2
 replace h3:=(hb1.block (B+3) (by omega)).trans h3
 replace hbw:=hbw.trans (hb1.mono (by omega))
 replace hz1:B+4≤w2.heap.size:=by have:=hb1.size;omega
 replace ck:=Yc1 h0
 have h0':w2.heap[B]? =some (.cells X 31 (0,0)):=by rw[←HX.out];exact h0
 clear hb1 cM;obtain⟨u,hu⟩:∃u,m%acr k=u:=⟨_,rfl⟩;obtain⟨q,hq⟩:∃q,m / acr k=q:=⟨_,rfl⟩;have hC4:=Lib.hid (fun t (ht:t<4)=>(by unfold col lin plc Ye5;simp only[if_pos ht,hu,hq];exact⟨trivial,trivial,trivial,trivial,trivial⟩:col k m t=2*u+t%2∧lin k m t=2*q+t / 2∧plc t=0∧Ye5 t a=a∧Ye5 t b=b))
 have hC5:=Lib.hid (fun p (hp:p=1∨p=2)=>(by unfold col lin plc Ye5;rcases hp with rfl|rfl <;> simp[hu,hq]:col k m (3+p)=u∧lin k m (3+p)=q∧plc (3+p)=p∧Ye5 (3+p) a=Ygx a∧Ye5 (3+p) b=Ygx b));rw[hu] at r1 m1 hu2;rw[hq] at r2 r3 m2 hv2;generalize acr k=A at *;generalize dow k=D at *;clear hu hq;have HM:=Lib.hid hm;have HZP:=Lib.hid hzp;clear hm hzp
 go_wp2_with (first|(with_reducible refine(cH _).mono ?_;rintro e x ⟨rfl,rfl⟩)|(with_reducible refine(cC _).mono ?_;rintro e x ⟨rfl,rfl⟩)|(with_reducible refine wpList_load_row rfl 31 _ rfl B rfl 31 X (0,0) _ h0' Tryd.underlying31 rfl HSX ?_))
 refine Yai (S:=fun x=>Below w2.heap.size w2 x) 8 (by kernel_rfl) (by kernel_rfl) (Below.refl _ _).drew ?_;simp only[List.take_succ_cons,List.take_zero,List.drop_succ_cons,List.drop_zero];refine Yab (v:=?v0) (by kernel_rfl) ?m ?_;(case m=>(intro x _;go_simp;try with_reducible rfl));simp only[Yaa];refine Yab (v:=?v1) (by kernel_rfl) ?m ?_;(case m=>(intro x _;go_simp;try with_reducible rfl))
 simp only[Yaa];refine Yab (v:=?v2) (by kernel_rfl) ?m ?_;(case m=>(intro x _;go_simp;rw[if_neg (by omega)]));simp only[Yaa];refine Yab (v:=?v3) (by kernel_rfl) ?m ?_;(case m=>(intro x _;go_simp;try with_reducible rfl));simp only[Yaa];refine Yab (v:=?v4) (by kernel_rfl) ?m ?_;(case m=>(intro x _;go_simp;try with_reducible rfl));simp only[Yaa]
 refine Yab (v:=?v5) (by kernel_rfl) ?m ?_;(case m=>(intro x _;go_simp;rw[if_neg (by omega)]));simp only[Yaa];refine Yab (v:=?v6) (by kernel_rfl) ?m ?_;(case m=>(intro x _;go_simp;try with_reducible rfl));simp only[Yaa];refine Yab (v:=?v7) (by kernel_rfl) ?m ?_;(case m=>(intro x _;go_simp;try with_reducible rfl));simp only[Yaa];refine Yba fun x hx=>?_
 replace h0:=(hx.block B (by omega)).trans h0
 replace h1:=(hx.block (B+1) (by omega)).trans h1
 replace h2:=(hx.block (B+2) (by omega)).trans h2
 replace h3:=(hx.block (B+3) (by omega)).trans h3
 replace hbw:=hbw.trans (hx.mono (by omega))
 replace hz1:B+4≤x.heap.size:=by have:=hx.size;omega
 have ho:=HO.out 0 (by omega) x;have hzc:=hz1
 replace h0':x.heap[B]? =some (.cells X 31 (0,0)):=by rw[←HX.out];exact h0
 clear hx ck
 go_wp2_with (with_reducible refine wpList_load_row rfl 31 _ rfl B rfl 31 X (0,0) _ h0' Tryd.underlying31 rfl HSX ?_)
 refine ho.mono ?_;rintro e w3 ⟨c,rfl,hc,hb1⟩
 replace h0:=(hb1.block B (by omega)).trans h0
 replace h1:=(hb1.block (B+1) (by omega)).trans h1
 replace h2:=(hb1.block (B+2) (by omega)).trans h2
 replace h3:=(hb1.block (B+3) (by omega)).trans h3
 replace hbw:=hbw.trans (hb1.mono (by omega))
 replace hz1:B+4≤w3.heap.size:=by have:=hb1.size;omega
 replace hc:=hc.mono hzc
 clear hb1 ho h0' hzc
 go_wp2
 go_loopw [48] (fun z wr=>∃t:Nat,t≤4∧z=.int .i64 t∧wr.heap[B]? =some (frO 31 k v)∧wr.heap[B+1]? =some (.cells Z 32 (0,0))∧wr.heap[B+2]? =some (.cells Y 24 (0,0))∧wr.heap[B+3]? =some (ptO (Ya7 (Ycd k m f a b) (64*t)))∧Below B w wr∧B+4≤wr.heap.size∧Yb3 wr (B+4) c (v 0) (wid k 0)) (fun z _=>4-(RowKit.intOf z).toNat)
 case atStart=>exact⟨0,by omega,rfl,h0,h1,h2,h3,hbw,hz1,hc⟩
 case round=>
  clear h0 h1 h2 h3 hbw hz1 hc;obtain⟨t,ht4,rfl,h0,h1,h2,h3,hb,hz,hc⟩:=hrel;by_cases hlt:t<4
  ·have t0:decide ((t:Int)<4)=true:=by simp;omega
   obtain⟨i1,i2,i3,i4,i5⟩:=hC4.out t hlt;have ct:=HT.out t (by omega) wr hb c (B+4) (by rw[i3];exact hc);have hG:=HPB.out t;rw[i1,i2,i3,i4,i5,HZ.out] at ct;rw[i3] at hG;generalize Yjk (f 0) (wid k 0) (Ylu k m t a) (Ymt k m t b)=G at ct hG;have HSV:=Yam G;obtain⟨V,hV⟩:∃V,Yav G=V:=⟨_,rfl⟩;rw[hV] at ct HSV;have HV2:=Lib.hid hV;have HG:=Lib.hid hG
   have e1:(t:Int).tmod 2=((t%2:Nat):Int):=by rw[Int.tmod_eq_emod_of_nonneg (by omega)];rfl
   have e2:(t:Int).tdiv 2=((t / 2:Nat):Int):=by rw[Int.tdiv_eq_ediv_of_nonneg (by omega)];rfl
   have e3:IntKind.i64.wrap ((t / 2:Nat):Int)=((t / 2:Nat):Int):=Ya3 (by omega);have b1:t%2<2:=by omega
   have b2:t / 2<2:=by omega
   have S1:2*(u:Int)+((t%2:Nat):Int)=((2*u+t%2:Nat):Int):=by omega
   have S2:2*(q:Int)+((t / 2:Nat):Int)=((2*q+t / 2:Nat):Int):=by omega
   have S3:IntKind.i64.wrap ((2*u+t%2:Nat):Int)=((2*u+t%2:Nat):Int):=Ya3 (by omega);have S4:IntKind.i64.wrap ((2*q+t / 2:Nat):Int)=((2*q+t / 2:Nat):Int):=Ya3 (by omega);generalize 2*u+t%2=xx at *;generalize 2*q+t / 2=yy at *;generalize t%2=tm at *;generalize t / 2=tq at *;clear hV hG i1 i2 i3 i4 i5
   go_wp2_with (with_reducible refine wpList_load_row rfl 32 _ rfl (B+1) rfl 32 Z (0,0) _ h1 Tryd.underlying32 rfl HS2 ?_)
   refine ct.mono ?_;rintro e x1 ⟨rfl,hb1⟩;have k0:=(hb1.block B (by omega)).trans h0;have k1:=(hb1.block (B+1) (by omega)).trans h1;have k2:=(hb1.block (B+2) (by omega)).trans h2;have k3:=(hb1.block (B+3) (by omega)).trans h3;have kb:=hb.trans (hb1.mono (by omega));have kz:B+4≤x1.heap.size:=by have:=hb1.size;omega
   have kc:=hc.below hb1;have k3':x1.heap[B+1+1+1]? =some (Yb6 24 384 (Ya7 (Ycd k m f a b) (64*t))):=k3;clear h0 h1 h2 h3 hb hz hc hb1 ct S1 S2 S3 S4 k3
   go_wp2_with (refine Yfe rfl 22 _ _ rfl (B+1+1+1) t _ (by omega) 24 (Ycd k m f a b) G V HV2.out rfl rfl k3' (by omega) HG.out HSV ?_;intro w2 hh2 hg2)
   have hb2:Below B w w2:=kb.grown hg2 (by omega) (fun k hk=>by injection hk with hk;omega);have j0:=(hg2.block B (by omega) (by intro e;injection e with e;omega)).trans k0;have j1:=(hg2.block (B+1) (by omega) (by intro e;injection e with e;omega)).trans k1;have j2:=(hg2.block (B+2) (by omega) (by intro e;injection e with e;omega)).trans k2;have jz:B+4≤w2.heap.size:=Nat.le_trans kz hg2.size
   have jc:=kc.grown hg2 (by omega)
   go_roundw
   case rel=>exact⟨t+1,by omega,by go_num,j0,j1,j2,hh2.out,hb2,jz,jc⟩
   case measure=>simp[RowKit.intOf];omega
  ·obtain rfl:t=4:=by omega
   have t0:decide ((4:Int)<4)=false:=by simp
   have h1':wr.heap[B+1]? =some (.cells (Ye6 a b) 32 (0,0)):=by rw[HZ.out];exact h1
   have HC2:=Lib.hid (fun(x:World) (hx:Below wr.heap.size wr x)=>Yjd ((hx.block (B+1) (by omega)).trans h1'));have C1:=Lib.hid (fun(x:World) (hx:Below wr.heap.size wr x)=>((Yep a x).mono fun e y h=>⟨h.1,h.2▸hx⟩:Calls Tryd.prog 34 #[.int .i64 a] x fun e y=>e=.returned (.int .i64 (Ygx a))∧Below wr.heap.size wr y))
   have C2:=Lib.hid (fun(x:World) (hx:Below wr.heap.size wr x)=>((Yep b x).mono fun e y h=>⟨h.1,h.2▸hx⟩:Calls Tryd.prog 34 #[.int .i64 b] x fun e y=>e=.returned (.int .i64 (Ygx b))∧Below wr.heap.size wr y));have hca:=Yk4 a;have hcb:=Yk4 b;generalize Ygx a=a' at *;generalize Ygx b=b' at *;clear hc h1'
   go_wp2
   refine Yai (S:=fun x=>Below wr.heap.size wr x) 7 (by kernel_rfl) (by kernel_rfl) (Below.refl _ _).drew ?_;simp only[List.take_succ_cons,List.take_zero,List.drop_succ_cons,List.drop_zero];refine Yab (v:=?vc0) (by kernel_rfl) ?m ?_;(case m=>(intro x _;go_simp;try with_reducible rfl));simp only[Yaa]
   refine Yal 3 _ ⟨B+1,0,none⟩ (.int .i64 a) (by kernel_rfl) rfl rfl (fun x hx=>by have c0:=(HC2.out x hx).1;go_simp) ?_;simp only[Yaa];refine Yas (by kernel_rfl) C1.out (fun _=>by kernel_rfl) ?_;simp only[Yaa];refine Yab (v:=?vc3) (by kernel_rfl) ?m ?_;(case m=>(intro x _;go_simp;try with_reducible rfl));simp only[Yaa]
   refine Yal 3 _ ⟨B+1,1,none⟩ (.int .i64 b) (by kernel_rfl) rfl rfl (fun x hx=>by have c0:=(HC2.out x hx).2;go_simp) ?_;simp only[Yaa];refine Yas (by kernel_rfl) C2.out (fun _=>by kernel_rfl) ?_;simp only[Yaa];refine Yab (v:=?vc6) (by kernel_rfl) ?m ?_;(case m=>(intro x _;go_simp;try with_reducible rfl));simp only[Yaa];refine Yba fun x hx=>?_;have k0:=(hx.block B (by omega)).trans h0
   have k1:=(hx.block (B+1) (by omega)).trans h1;have k2:=(hx.block (B+2) (by omega)).trans h2;have k3:=(hx.block (B+3) (by omega)).trans h3;have kb:=hb.trans (hx.mono (by omega));have kz:B+4≤x.heap.size:=by have:=hx.size;omega
   have HZS:Z.size=2:=by rw[←HZ.out];rfl
   go_wp2_with (refine Yac rfl 32 _ _ rfl (B+1) #[.int .i64 a',.int .i64 b'] Z rfl rfl 32 k1 (Ycx a' b') HZS (Yp6 a' b') ?_;intro w2 hh2 hg2)
   have hC2:∃Z2,Ye6 a' b'=Z2:=⟨_,rfl⟩;obtain⟨Z2,hZ2⟩:=hC2;have HSZ2:(Tryd.prog.info? 32).map (·.size)=some Z2.size:=by rw[←hZ2];exact Ycx a' b'
   have j0:=(hg2.block B (by omega) (by intro e;injection e with e;omega)).trans k0;have j1:w2.heap[B+1]? =some (.cells Z2 32 (0,0)):=by rw[←hZ2];exact hh2
   have j2:=(hg2.block (B+2) (by omega) (by intro e;injection e with e;omega)).trans k2;have j3:w2.heap[B+3]? =some (Yb6 24 384 (Ya7 (Ycd k m f a b) (64*(3+1)))):=(hg2.block (B+3) (by omega) (by intro e;injection e with e;omega)).trans k3;have jb:Below B w w2:=kb.grown hg2 (by omega) (fun k hk=>by injection hk with hk;omega);have jz:B+4≤w2.heap.size:=Nat.le_trans kz hg2.size;have HZ2:=Lib.hid hZ2
   clear h0 h1 h2 h3 hb hz k0 k1 k2 k3 kb kz hx hh2 hg2 hZ2 C1 C2 HC2;generalize wr=wo at *
   go_loopw [15] (fun z wr=>∃p:Nat,(p=1∨p=2∨p=3)∧z=.int .i64 p∧wr.heap[B]? =some (frO 31 k v)∧wr.heap[B+1]? =some (.cells Z2 32 (0,0))∧wr.heap[B+2]? =some (.cells Y 24 (0,0))∧wr.heap[B+3]? =some (Yb6 24 384 (Ya7 (Ycd k m f a b) (64*(3+p))))∧Below B w wr∧B+4≤wr.heap.size) (fun z _=>3-(RowKit.intOf z).toNat)
   case atStart=>exact⟨1,.inl rfl,rfl,j0,j1,j2,j3,jb,jz⟩
   case round=>
    clear j0 j1 j2 j3 jb jz;obtain⟨p,hp3,rfl,h0,h1,h2,h3,hb,hz⟩:=hrel;by_cases hlt:p<3
    ·have hp:p=1∨p=2:=by omega
     have t1:decide ((p:Int)<3)=true:=by simp;omega
     obtain⟨i1,i2,i3,i4,i5⟩:=hC5.out p hp;have ho:=HO.out p (by omega);have h0':wr.heap[B]? =some (.cells X 31 (0,0)):=by rw[←HX.out];exact h0
     obtain⟨t,ht⟩:∃t,3+p=t:=⟨_,rfl⟩;have ht6:t<6:=by omega
     have hp6:=Lib.hid ht6;obtain⟨t1,ht1⟩:∃t1,t+1=t1:=⟨_,rfl⟩;have S1:(4:Int)+(p:Int)=(t1:Int):=by omega
     have S2:(t1:Int)-1=(t:Int):=by omega
     have S3:IntKind.i64.wrap (t1:Int)=(t1:Int):=Ya3 (by omega);have S4:IntKind.i64.wrap (t:Int)=(t:Int):=Ya3 (by omega);rw[ht] at i1 i2 i3 i4 i5 h3;have h4:64*(t+1)=64*(3+(p+1)):=by omega
     have H4:=Lib.hid h4;have HTP:=Lib.hid ht;clear ht1 h4 ht;have hG:=HPB.out t;rw[i3] at hG;generalize hGG:Yjk (f p) (wid k p) (Ylu k m t a) (Ymt k m t b)=G at hG;have HSV:=Yam G;obtain⟨V,hV⟩:∃V,Yav G=V:=⟨_,rfl⟩;rw[hV] at HSV;have HVV:=Lib.hid hV;rw[←hGG] at hV
     replace hV:=Lib.hid hV
     have HG:=Lib.hid hG;clear hG hGG
     go_wp2
     refine wp_region_held_drew (S:=(fun x=>Below B w x∧x.heap[B]? =some (.cells X 31 (0,0))∧x.heap[B+1]? =some (.cells Z2 32 (0,0)))) (by kernel_rfl) ⟨hb.drew,h0',h1⟩ (fun hH=>?_);refine Ydd 0 (some 78) rfl rfl hH (by kernel_rfl) (fun x _=>by go_simp;try with_reducible rfl) ?_
     try simp only[Yaa]
     refine Ydd 1 (some 79) rfl rfl hH (by kernel_rfl) (fun x _=>by go_simp;try with_reducible rfl) ?_
     try simp only[Yaa]
     refine Ydd 2 (some 80) rfl rfl hH (by kernel_rfl) (fun x _=>by go_simp;try with_reducible rfl) ?_
     try simp only[Yaa]
     refine Yct 3 (some 81) (v:=.agg X) rfl rfl (by kernel_rfl) (by kernel_rfl) (by kernel_rfl) (fun _ _ _ h=>h) hH (Or.inl ⟨by kernel_rfl,fun x hx=>Ya4 (ty:=31) (x:=.tmp 3) (ad:=⟨B,0,none⟩) (by kernel_rfl) (by kernel_rfl) (run_loadVar_row x (B) _ _ X (0,0) _ (hx.2.1) Tryd.underlying31 rfl HSX)⟩) ?_
     try simp only[Yaa]
     refine Ydd 4 (some 82) rfl rfl hH (by kernel_rfl) (fun x _=>by go_simp;try with_reducible rfl) ?_
     try simp only[Yaa]
     refine Ydd 6 (some 84) rfl rfl hH (by kernel_rfl) (fun x _=>by go_simp;try with_reducible rfl) ?_
     try simp only[Yaa]
     refine Ydd 7 (some 85) rfl rfl hH (by kernel_rfl) (fun x _=>by go_simp;try with_reducible rfl) ?_
     try simp only[Yaa]
     refine Yct 8 (some 86) (v:=.agg Z2) rfl rfl (by kernel_rfl) (by kernel_rfl) (by kernel_rfl) (fun _ _ _ h=>h) hH (Or.inl ⟨by kernel_rfl,fun x hx=>Ya4 (ty:=32) (x:=.tmp 5) (ad:=⟨B+1,0,none⟩) (by kernel_rfl) (by kernel_rfl) (run_loadVar_row x (B+1) _ _ Z2 (0,0) _ (hx.2.2) Tryd.underlying32 rfl HSZ2)⟩) ?_
     try simp only[Yaa]
     refine wpAnyH_ready (rs:=[5]) (by kernel_rfl) (by simp) ?_;refine AllReadyH.cons rfl (fun K hK=>?_) AllReadyH.nil
     go_simp
     go_wp2_with fail
     refine(ho _).mono ?_;rintro e x1 ⟨c1,rfl,hc,hb1⟩;have hc2:=hc.mono (show B+4≤wr.drew.heap.size from hz);have k2:=(hb1.block (B+2) (show B+2<wr.heap.size by omega)).trans h2;have k3:=(hb1.block (B+3) (show B+3<wr.heap.size by omega)).trans h3;have kz:B+4≤x1.heap.size:=Nat.le_trans hz hb1.size;clear hc
     refine hK.out _ _ (⟨hH.1.trans (hb1.mono (show B≤wr.heap.size by omega)),(hb1.block B (show B<wr.heap.size by omega)).trans hH.2.1,(hb1.block (B+1) (show B+1<wr.heap.size by omega)).trans hH.2.2⟩) (fun hH2=>?_);clear hK K hH;have hH:=hH2;clear hH2
     try simp only[Yaa]
     refine wpAnyH_ready (rs:=[9]) (by kernel_rfl) (by simp) ?_;refine AllReadyH.cons rfl (fun K hK=>?_) AllReadyH.nil
     go_simp
     go_wp2_with fail
     have ct:=HT.out t hp6 x1 hH.1 c1 (B+4) (by rw[i3];exact hc2);rw[i1,i2,i3,i4,i5,HZ2.out,hV.out] at ct;refine ct.mono ?_;rintro e x2 ⟨rfl,hb2⟩;have l2:=(hb2.block (B+2) (by omega)).trans k2;have l3:=(hb2.block (B+3) (by omega)).trans k3;have lz:B+4≤x2.heap.size:=Nat.le_trans kz hb2.size
     refine hK.out _ _ (⟨hH.1.trans (hb2.mono (by omega)),(hb2.block B (by omega)).trans hH.2.1,(hb2.block (B+1) (by omega)).trans hH.2.2⟩) (fun hH2=>?_);clear hK K hH;have hH:=hH2;clear hH2
     try simp only[Yaa]
     refine Ydd 10 (some 88) (v:=.pointer (some ⟨B+1+1+1,t*64,none⟩)) rfl rfl hH (by kernel_rfl) (fun x _=>by go_simp;first|rw[if_pos (by omega)]|exact fun h6=>absurd h6 (by omega)) ?_
     try simp only[Yaa]
     refine wpAnyH_ready (rs:=[11]) (by kernel_rfl) (by simp) ?_;refine AllReadyH.cons rfl (fun K hK=>?_) AllReadyH.nil;refine(if_pos (by kernel_rfl)).mpr ?_;refine Yd7 22 _ _ rfl (B+1+1+1) t _ (by omega) 24 (Ycd k m f a b) G V HVV.out rfl rfl l3 ht6 HG.out HSV (fun w5 hh5 hg5=>?_);have n0:=(hg5.block B (by omega) (by intro e;injection e with e;omega)).trans hH.2.1
     have n1:=(hg5.block (B+1) (by omega) (by intro e;injection e with e;omega)).trans hH.2.2;have n2:=(hg5.block (B+2) (by omega) (by intro e;injection e with e;omega)).trans l2;have nb:Below B w w5:=hH.1.grown hg5 (by omega) (fun k hk=>by injection hk with hk;omega);have nz:B+4≤w5.heap.size:=Nat.le_trans lz hg5.size;refine hK.out _ _ ⟨nb,n0,n1⟩ (fun hH2=>?_);clear hK K hH hH2
     try simp only[Act.put]
     refine wpAnyH_done (by kernel_rfl) ?_ _;have n3:w5.heap[B+3]? =some (Yb6 24 384 (Ya7 (Ycd k m f a b) (64*(3+(p+1))))):=by rw[←H4.out];exact hh5.out
     have n0':w5.heap[B]? =some (frO 31 k v):=by rw[←HX.out] at n0;exact n0
     clear h0 h1 h2 h3 hb hz hb1 hb2 k2 k3 kz l2 l3 lz ct hc2 hg5 hh5 n0 h0' S1 S2 S3 S4
     go_wp2
     go_roundw
     case rel=>exact⟨p+1,by omega,by go_num,n0',n1,n2,n3,nb,nz⟩
     case measure=>simp[RowKit.intOf];omega
    ·obtain rfl:p=3:=by omega
     have t1:decide ((3:Int)<3)=false:=by simp
     have HSV:=HPS (Ya7 (Ycd k m f a b) (64*6));have HOV:=Ya5 384 (Ya7 (Ycd k m f a b) (64*6));have HVS:(arn 384 (Ya7 (Ycd k m f a b) (64*6))).size=384:=Yah _ _;have HVE:arn 384 (Ya7 (Ycd k m f a b) (64*6))=arn 384 (Ycd k m f a b):=Ybd (Yce 384 (Ycd k m f a b));have h3':wr.heap[B+3]? =some (.cells (arn 384 (Ya7 (Ycd k m f a b) (64*6))) 24 (0,0)):=h3;clear h3;rw[HVE] at HSV HOV HVS h3'
     obtain⟨V,hV⟩:∃V,arn 384 (Ycd k m f a b)=V:=⟨_,rfl⟩;rw[hV] at HSV HOV HVS h3';have HVV:=Lib.hid hV;have HYV:Y.size=V.size:=by rw[HYS,HVS]
     clear HVE hV
     go_wp2_with (first|(with_reducible refine wpList_load_row rfl 24 _ rfl (B+3) rfl 24 V (0,0) _ h3' Tryd.underlying24 rfl HSV ?_)|(with_reducible refine Yac rfl 24 _ _ rfl (B+2) V Y rfl rfl 24 h2 HSV HYV HOV ?_;intro w4 hh4 hg4))
     refine bodyPost_ret (Yaj rfl _ _ (B+2) 24 _ (0,0) _ rfl hh4 Tryd.underlying24 rfl HSV) rfl ?_;exact⟨by rw[HVV.out];rfl,by rw[HB.out];exact hb.grown hg4 (by omega) (fun k hk=>by injection hk with hk;omega)⟩
set_option maxRecDepth 1000000 in
set_option maxHeartbeats 8000000 in
theorem Yma (k:Int)(v:Nat→Value)(n:Nat→Nat)(m a b:Int)(w:World)(h:∀p,p<3→∃a c,v p=.slice a (n p) c)(hno:(Ycf k n&&Ymz k m a b)=false):
  Calls Tryd.prog 22 #[.agg (frA k v),.int .i64 m,.agg (Ye6 a b)] w fun e w'=>e=.returned (.tuple #[.agg (arn 384 fun _=>0),.int .i64 (if Ycf k n&&Ylk k m then 8 else 1)])∧Below w.heap.size w w':=by
 obtain⟨B,wA,wB,wC,wD,hB,hwA,hwB,hwC,hwD,hzA,hzB,hzC,hzD,hD0,hD1,hD2,hD3,hbD⟩:=Ynw w (.cells (frA k v) 31 (0,0)) (.cells (Ye6 a b) 32 (0,0)) (.cells (arn 384 fun _=>0) 24 (0,0)) (.cells (arn 384 fun _=>0) 24 (0,0));have cR:=Yd3 k v n wD h;have cH:=fun w=>Yeu k m w;have cM:=fun w=>Yi4 k m a b w;have hzp:=Ycm;have HSX:=Yed Ygd k v;have HS2:=Ycx a b;have HYS:(arn 384 fun _=>0).size=384:=Yah _ _
 have HSY:=Ybc fun _=>0;have HOY:=Ya5 384 fun _=>0;obtain⟨X,hX⟩:∃X,frA k v=X:=⟨_,rfl⟩;have hD0':wD.heap[B]? =some (.cells X 31 (0,0)):=by rw[←hX];exact hD0
 replace hD0:wD.heap[B]? =some (frO 31 k v):=hD0
 rw[hX] at cR hwA HSX ⊢;obtain⟨Y,hY⟩:∃Y,(arn 384 fun _=>0)=Y:=⟨_,rfl⟩;rw[hY] at hwC hwD hzp HYS hD2 hD3 HSY HOY ⊢;obtain⟨Z,hZ⟩:∃Z,Ye6 a b=Z:=⟨_,rfl⟩;rw[hZ] at hwB HS2 hD1 cM ⊢;have HYY:Y.size=Y.size:=rfl;have HX:=Lib.hid hX;have HY:=Lib.hid hY;have HZ:=Lib.hid hZ;have HWA:=Lib.hid hwA;have HWB:=Lib.hid hwB;have HWC:=Lib.hid hwC;have HWD:=Lib.hid hwD;have HB:=Lib.hid hB
 clear hX hY hZ hwA hwB hwC hwD hB h;cases hr:Ycf k n with
 |false=>
  rw[hr] at cR
  go_enter Tryd.func22,Tryd.ntmps22
  go_wp2_with (rw[HWA.out,HB.out,HWB.out,HWC.out,HWD.out];with_reducible refine wpList_load_row rfl 31 _ rfl B rfl 31 X (0,0) _ hD0' Tryd.underlying31 rfl HSX ?_)
  refine cR.mono ?_;rintro e w1 ⟨rfl,hb1⟩;have h2:=(hb1.block (B+2) (by omega)).trans hD2;have h3:=(hb1.block (B+3) (by omega)).trans hD3;have hbw:=hbD.trans (hb1.mono (by omega))
  go_wp2_with (first|(with_reducible refine wpList_load_row rfl 24 _ rfl (B+3) rfl 24 Y (0,0) _ h3 Tryd.underlying24 rfl HSY ?_)|(with_reducible refine Yac rfl 24 _ _ rfl (B+2) Y Y rfl rfl 24 h2 HSY rfl HOY ?_;intro w4 hh4 hg4))
  refine bodyPost_ret (Yaj rfl _ _ (B+2) 24 _ (0,0) _ rfl hh4 Tryd.underlying24 rfl HSY) rfl ?_;exact⟨by rfl,by rw[HB.out];exact hbw.grown hg4 (by have:=hb1.size;omega) (fun k hk=>by injection hk with hk;omega)⟩
 |true=>
  rw[hr] at cR hno;rw[Bool.true_and] at hno;have hz4:B+4≤wD.heap.size:=by omega
  cases hc:Ylk k m with
  |false=>
   rw[hc] at cH
   go_enter Tryd.func22,Tryd.ntmps22
   go_wp2_with (rw[HWA.out,HB.out,HWB.out,HWC.out,HWD.out];with_reducible refine wpList_load_row rfl 31 _ rfl B rfl 31 X (0,0) _ hD0' Tryd.underlying31 rfl HSX ?_)
   refine cR.mono ?_;rintro e w1 ⟨rfl,hb1⟩;have h0:=(hb1.block B (by omega)).trans hD0;have h2:=(hb1.block (B+2) (by omega)).trans hD2;have h3:=(hb1.block (B+3) (by omega)).trans hD3;have hbw:=hbD.trans (hb1.mono (by omega));have ck:=Yc1 h0
   go_wp2_with (first|(with_reducible refine(cH _).mono ?_;rintro e x ⟨rfl,rfl⟩)|(with_reducible refine wpList_load_row rfl 24 _ rfl (B+3) rfl 24 Y (0,0) _ h3 Tryd.underlying24 rfl HSY ?_)|(with_reducible refine Yac rfl 24 _ _ rfl (B+2) Y Y rfl rfl 24 h2 HSY rfl HOY ?_;intro w4 hh4 hg4))
   refine bodyPost_ret (Yaj rfl _ _ (B+2) 24 _ (0,0) _ rfl hh4 Tryd.underlying24 rfl HSY) rfl ?_;exact⟨by rfl,by rw[HB.out];exact hbw.grown hg4 (by have:=hb1.size;omega) (fun k hk=>by injection hk with hk;omega)⟩
  |true=>
   rw[hc] at cH;rw[hno] at cM
   go_enter Tryd.func22,Tryd.ntmps22
   go_wp2_with (rw[HWA.out,HB.out,HWB.out,HWC.out,HWD.out];with_reducible refine wpList_load_row rfl 31 _ rfl B rfl 31 X (0,0) _ hD0' Tryd.underlying31 rfl HSX ?_)
   refine cR.mono ?_;rintro e w1 ⟨rfl,hb1⟩;have h0:=(hb1.block B (by omega)).trans hD0;have h1:=(hb1.block (B+1) (by omega)).trans hD1;have h2:=(hb1.block (B+2) (by omega)).trans hD2;have h3:=(hb1.block (B+3) (by omega)).trans hD3;have hbw:=hbD.trans (hb1.mono (by omega));have hz1:B+4≤w1.heap.size:=by have:=hb1.size;omega
   have ck:=Yc1 h0
   go_wp2_with (first|(with_reducible refine(cH _).mono ?_;rintro e x ⟨rfl,rfl⟩)|(with_reducible refine wpList_load_row rfl 32 _ rfl (B+1) rfl 32 Z (0,0) _ h1 Tryd.underlying32 rfl HS2 ?_))
   refine(cM _).mono ?_;rintro e w2 ⟨rfl,hb2⟩;have k2:=(hb2.block (B+2) (by omega)).trans h2;have k3:=(hb2.block (B+3) (by omega)).trans h3;have kb:=hbw.trans (hb2.mono (by omega));have kz:B+4≤w2.heap.size:=Nat.le_trans hz1 hb2.size;clear h0 h1 h2 h3 hb1 hb2 hbw ck
   go_wp2_with (first|(with_reducible refine wpList_load_row rfl 24 _ rfl (B+3) rfl 24 Y (0,0) _ k3 Tryd.underlying24 rfl HSY ?_)|(with_reducible refine Yac rfl 24 _ _ rfl (B+2) Y Y rfl rfl 24 k2 HSY rfl HOY ?_;intro w4 hh4 hg4))
   refine bodyPost_ret (Yaj rfl _ _ (B+2) 24 _ (0,0) _ rfl hh4 Tryd.underlying24 rfl HSY) rfl ?_;exact⟨by rfl,by rw[HB.out];exact kb.grown hg4 (by omega) (fun k hk=>by injection hk with hk;omega)⟩
end Go.Proofs.YtdnjefldijjgdaaDoor