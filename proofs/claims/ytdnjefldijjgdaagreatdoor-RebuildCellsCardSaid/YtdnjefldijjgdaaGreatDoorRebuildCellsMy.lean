/- No condition. -/
import Derived.Test.YtdnjefldijjgdaaGreatDoorRebuildCellsMa
import Derived.Test.YtdnjefldijjgdaaGreatDoorRebuildCellsMf
import Derived.Test.YtdnjefldijjgdaaGreatDoorRebuildCellsMi
import Derived.Test.YtdnjefldijjgdaaGreatDoorRebuildCellsMv
import Derived.Test.YtdnjefldijjgdaaGreatDoorRebuildCellsMw
import Derived.Test.YtdnjefldijjgdaaGreatDoorRebuildCellsMx
import Derived.Laws.OwnMore
namespace Go.Proofs.YtdnjefldijjgdaaGreatDoor
open Go.RowKit Go.Lib Go.ChangeShapes Go.WideShapes Go.ChangeAt
section
variable {H:Type}{enc:TypeId×Value→H}{P:Program}
theorem Ye8 {w:World}{base fuel:Nat}{sp:Nat→Bool}{held:Bool}{t e:TypeId}{v:Value}{x:DataW H×List MemPlace}
  (ht:P.underlying t=some (.slice e))(he:P.underlying e=some (.int .u8))(ce:P.cellsOf e=1)
  (hf:DataW.trod enc P w base sp held fuel t [v]=some x):∃n f,Ykj w v n f∧n≤maxLen:=by
 rcases Go.Deep.open_slice1 ht ce hf with ⟨h1,_⟩|⟨a,len,cap,m,n,V,D,Pl,h1,hb,hl,hm,hmm,_,hx⟩
 ·injection h1 with h1;subst h1;exact⟨0,fun _=>0,Ykj.nil w _,Nat.zero_le _⟩
 ·injection h1 with h1;subst h1;have hlm:len≤m:=by rw[hmm];split <;> omega
  have each:∀i,i<len→∃y:Int,w.cell? (a.add i)=some (.int .u8 y)∧0≤y∧y≤255:=by
   intro i hi;obtain⟨h1,h2⟩:=hx i (by omega);obtain⟨y,e0,_,w0⟩:=DataW.trod_int he h2;injection e0 with e0;have h':(decide (IntKind.u8.min≤y)&&decide (y≤IntKind.u8.max))=true:=w0;rw[Bool.and_eq_true,decide_eq_true_iff,decide_eq_true_iff] at h';have e1:IntKind.u8.min=0:=rfl;have e2:IntKind.u8.max=255:=rfl;exact⟨y,by rw[h1,e0],by omega,by omega⟩
  refine⟨len,fun i=>match w.cell? (a.add i) with|some (.int _ y)=>y|_=>0,⟨some a,cap,rfl,hl,?_⟩,by omega⟩;by_cases h0:len=0
  ·exact .inl h0
  ·right
   obtain⟨y0,hy0,_⟩:=each 0 (by omega);have ea:a=⟨a.block,a.off,none⟩:=by
    have:a.add 0=a:=by cases a with|mk b o s=>cases s <;> simp[Addr.add]
    rw[this] at hy0;exact Yj3 hy0
   refine⟨a.block,a.off,by rw[←ea],fun i hi=>?_⟩;obtain⟨y,hy,h1,h2⟩:=each i hi;have eadd:a.add i=⟨a.block,a.off+i,none⟩:=by rw[ea];simp[Addr.add]
   simp only[hy];exact⟨by rw[←eadd];exact hy,h1,h2⟩
theorem Ym5 {w:World}{r:Reach}{b0 base:Nat}{sp:Nat→Bool}{held:Bool}{t ti ta ts te:TypeId}{f0 f1:Field}{v:Value}{d:DataW H}{ps:List MemPlace}
  (ht:P.underlying t=some (.struct #[f0,f1]))(hi:P.underlying ti=some (.int .i64))(ha:P.underlying ta=some (.array 3 ts))(hs:P.underlying ts=some (.slice te))(he:P.underlying te=some (.int .u8))
  (e0:f0.type=ti)(e1:f1.type=ta)(o0:f0.offset=0)(o1:f1.offset=1)(ci:P.cellsOf ti=1)(ca:P.cellsOf ta=3)(cs:P.cellsOf ts=1)(hc:P.cellsOf t=4)(ce:P.cellsOf te=1)
  (hval:Value.okWide P w r b0 t v)(hd:DataW.Trod enc P w base sp held t v d ps):
  ∃(k:Int) (vs:Nat→Value) (n:Nat→Nat) (f:Nat→Nat→Int),v=.agg (frA k vs)∧(Lit.int .i64 k).wf=true∧Yiw w vs n f∧∀p,p<3→n p≤maxLen:=by
 obtain⟨Ybr,rfl,hsz,_⟩:∃cs,v=.agg cs∧cs.size=P.cellsOf t∧Row.okWide P w r b0 t cs:=by
  simpa [Value.okWide,ht] using hval
 rw[hc] at hsz;obtain⟨fuel,hf⟩:=hd;obtain⟨xs,k,hk,hxy,_,hxl,hfs⟩:=DataW.trod_struct ht hf;obtain⟨l⟩:=Ybr
 match l,hsz,xs,hxl with
 |[c0,c1,c2,c3],_,[y0,y1],_=>
  have g0:=hfs 0 f0 rfl;have g1:=hfs 1 f1 rfl;rw[e0,o0,ci] at g0;rw[e1,o1,ca] at g1;obtain⟨x0,q0,_,w0⟩:=DataW.trod_int hi (show DataW.trod _ P w base sp held k ti [c0]=some y0 from g0);obtain⟨zs,m,_,_,_,hl,hel⟩:=DataW.trod_array ha (show DataW.trod _ P w base sp held k ta [c1,c2,c3]=some y1 from g1);rw[cs] at hel
  match zs,hl with
  |[z0,z1,z2],_=>
   obtain⟨n0,r0,b0,l0⟩:=Ye8 hs he ce (show DataW.trod _ P w base sp held m ts [c1]=some z0 from hel 0 (by omega));obtain⟨n1,r1,b1,l1⟩:=Ye8 hs he ce (show DataW.trod _ P w base sp held m ts [c2]=some z1 from hel 1 (by omega));obtain⟨n2,r2,b2,l2⟩:=Ye8 hs he ce (show DataW.trod _ P w base sp held m ts [c3]=some z2 from hel 2 (by omega));injection q0 with q0;subst q0
   refine⟨x0,fun p=>if p=0 then c1 else if p=1 then c2 else c3,fun p=>if p=0 then n0 else if p=1 then n1 else n2,fun p=>if p=0 then r0 else if p=1 then r1 else r2,rfl,w0,fun p hp=>?_,fun p hp=>?_⟩
   ·match p,hp with
    |0,_=>exact b0
    |1,_=>exact b1
    |2,_=>exact b2
   ·match p,hp with
    |0,_=>exact l0
    |1,_=>exact l1
    |2,_=>exact l2
end
theorem Yiw.slices {w:World}{v:Nat→Value}{n:Nat→Nat}{f:Nat→Nat→Int}(h:Yiw w v n f):∀p,p<3→∃a c,v p=.slice a (n p) c:=fun p hp=>by
 obtain⟨a,c,e,_⟩:=h p hp;exact⟨a,c,e⟩
def Ylx (n:Nat→Nat):Bool:=decide ((n 0:Int)≤30000)&&(decide ((n 1:Int)≤30000)&&decide ((n 2:Int)≤30000))
set_option maxRecDepth 100000 in
theorem Ym4 (k:Int)(v:Nat→Value)(n:Nat→Nat)(w:World)(hv:∀p,p<3→∃a c,v p=.slice a (n p) c):Calls Tryz.prog 5 #[.agg (frA k v)] w fun e w'=>e=.returned (.bool (Ylx n))∧Below w.heap.size w w':=by
 have hb1:∀o,Below w.heap.size w (w.alloc o):=fun o=>(Below.refl _ w).alloc (Nat.le_refl _) _;have hR:=Lib.hid (show Ylx n=(decide ((n 0:Int)≤30000)&&(decide ((n 1:Int)≤30000)&&decide ((n 2:Int)≤30000))) from rfl);obtain⟨a0,b0,hv0⟩:=hv 0 (by omega);obtain⟨a1,b1,hv1⟩:=hv 1 (by omega);obtain⟨a2,b2,hv2⟩:=hv 2 (by omega);unfold frA frL;rw[hv0,hv1,hv2];clear hv hv0 hv1 hv2;generalize n 0=n0 at *
 generalize n 1=n1 at *;generalize n 2=n2 at *;cases t0:decide ((n0:Int)≤30000)
 ·go_enter Tryz.func5,Tryz.ntmps5
  go_wp2
  go_ret
  exact⟨Yac (by rw[hR.out,t0];rfl),hb1 _⟩
 cases t1:decide ((n1:Int)≤30000)
 ·go_enter Tryz.func5,Tryz.ntmps5
  go_wp2
  go_ret
  exact⟨Yac (by rw[hR.out,t0,t1];rfl),hb1 _⟩
 cases t2:decide ((n2:Int)≤30000)
 all_goals
  go_enter Tryz.func5,Tryz.ntmps5
  go_wp2
  go_ret
  exact⟨Yac (by rw[hR.out,t0,t1,t2];rfl),hb1 _⟩
end Go.Proofs.YtdnjefldijjgdaaGreatDoor
namespace Go.Proofs.YtdnjefldijjgdaaGreatDoor
open Go.RowKit Go.Lib
theorem Ypr (g:Nat→Int)(t:Nat):Yb7 (Ya9 g t) t (g t)=Ya9 g (t+1):=rfl
theorem Ypp {w:World}{B t:Nat}{g:Nat→Int}(h:w.heap[B]? =some (ptO (Ya9 g t))):(w.setCell ⟨B,t,none⟩ (.int .i64 (g t))).heap[B]? =some (ptO (Ya9 g (t+1))):=by
 have:=Ye4 (w:=w) (B:=B) (i:=t) (n:=384) (T:=38) (f:=Ya9 g t) (g t) h;rw[Ypr] at this;exact this
def Yd8 (b:Nat)(v:Int):Int:=if b<4 then v else Yfi v
def Yic (k:Int)(m b:Nat)(v:Int):Nat:=(16*(col k m b:Int)+Yd8 b v).toNat
def Yir (k:Int)(m b:Nat)(v:Int):Nat:=(16*(lin k m b:Int)+Yd8 b v).toNat
def Ya5 (k:Int)(m:Nat)(f:Nat→Nat→Int)(u v:Int):Nat→Int:=fun s=>Ylp (f (plc (s / 64))) (wid k (plc (s / 64))) (Yic k m (s / 64) u) (Yir k m (s / 64) v) (s%64)
theorem Ymo {c m:Nat}{v:Int}(h:Ybe c m v=true):0≤16*(c:Int)+Yfi v∧16*(c:Int)+Yfi v+14≤16*(m:Int)-2:=by
 obtain⟨⟨h1,h2⟩,h3,h4⟩:=Yc5.1 h;rw[Ysx (by omega) (by omega)];unfold Ygv
 split <;> split <;> omega
theorem Ys7 {W H x y:Nat}(hW:0<W)(hH:0<H)(hx:x≤2*W-2)(hy:y≤2*H-2):y / 2*W+x / 2+y%2*W+x%2<W*H:=by
 have h:(y / 2+y%2+1)*W≤H*W:=Nat.mul_le_mul_right _ (by omega);rw[Nat.add_mul,Nat.add_mul,Nat.one_mul,Nat.mul_comm H] at h;omega
theorem Yln {c m b r:Nat}{v:Int}(h:Ybe c m v=true)(hr:r≤1)(hb:b<6):
  0≤16*((if b<4 then 2*c+r else c:Nat):Int)+Yd8 b v∧16*((if b<4 then 2*c+r else c:Nat):Int)+Yd8 b v+14≤2*((if plc b=0 then 16*m else 8*m:Nat):Int)-2:=by
 have h1:=Yc5.1 h;have h2:=Ymo h;unfold Yd8 plc;by_cases h4:b<4
 ·simp only[if_pos h4,if_true];omega
 ·simp only[if_neg h4,if_neg (show ¬ b-3=0 by omega)];omega
theorem Yk3 {k:Int}{m b:Nat}{u v:Int}(hm:m<Ybr k)(hu:Ybe (m%acr k) (acr k) u=true)(hv:Ybe (m / acr k) (dow k) v=true)(hb:b<6):
  16*(col k m b:Int)+Yd8 b u=(Yic k m b u:Int)∧16*(lin k m b:Int)+Yd8 b v=(Yir k m b v:Int)∧Yic k m b u≤9000∧Yir k m b v≤9000∧InT (siz k (plc b)) (wid k (plc b)) (Yic k m b u) (Yir k m b v):=by
 obtain⟨h0,h1,h2⟩:=Yc2 hm;obtain⟨-,-,-,-,m1,m2⟩:=Ybu k;have c1:0≤16*(col k m b:Int)+Yd8 b u∧16*(col k m b:Int)+Yd8 b u+14≤2*(wid k (plc b):Int)-2:=Yln (r:=b%2) hu (by omega) hb;have c2:0≤16*(lin k m b:Int)+Yd8 b v∧16*(lin k m b:Int)+Yd8 b v+14≤2*(hei k (plc b):Int)-2:=by
  have:=Yln (r:=b / 2) (b:=b) hv;by_cases h4:b<4
  ·exact Yln (r:=b / 2) hv (by omega) hb
  ·have h:=Yln (r:=0) (b:=b) hv (by omega) hb;unfold lin hei;simp only[if_neg h4] at h ⊢;exact h
 obtain⟨w1,w2⟩:=Yez k (plc b);have e1:16*(col k m b:Int)+Yd8 b u=(Yic k m b u:Int):=by unfold Yic;omega
 have e2:16*(lin k m b:Int)+Yd8 b v=(Yir k m b v:Int):=by unfold Yir;omega
 rw[e1] at c1;rw[e2] at c2;refine⟨e1,e2,by omega,by omega,fun i hi=>?_⟩;have hh:siz k (plc b)=wid k (plc b)*hei k (plc b):=rfl;rw[hh];have q1:i%8≤7:=by omega
 have q2:i / 8≤7:=by omega
 exact Ys7 (by omega) (by omega) (by omega) (by omega)
theorem Yhi (k:Int)(m:Nat)(f:Nat→Nat→Int)(u v:Int)(b:Nat):∀i,i<64→Ylp (f (plc b)) (wid k (plc b)) (Yic k m b u) (Yir k m b v) i=Ya5 k m f u v (64*b+i):=fun i hi=>by
 unfold Ya5;rw[show (64*b+i) / 64=b by omega,show (64*b+i)%64=i by omega]
set_option maxRecDepth 1000000 in
set_option maxHeartbeats 8000000 in
theorem Ypm (k:Int)(v:Nat→Value)(n:Nat→Nat)(f:Nat→Nat→Int)(m:Nat)(a b:Int)(w:World)(h:Yiw w v n f)(hr:Ybf k n=true)(hm:m<Ybr k)(hy:Ygj k m a b=true):
  Calls Tryz.prog 29 #[.agg (frA k v),.int .i64 (m:Int),.agg (Yeq a b)] w fun e w'=>e=.returned (.tuple #[.agg (arn 384 (Ya5 k m f a b)),.int .i64 0])∧Below w.heap.size w w':=by
 obtain⟨B,wA,wB,wC,wD,hB,hwA,hwB,hwC,hwD,hzA,hzB,hzC,hzD,hD0,hD1,hD2,hD3,hbD⟩:=Ym2 w (.cells (frA k v) 25 (0,0)) (.cells (Yeq a b) 26 (0,0)) (.cells (arn 384 fun _=>0) 38 (0,0)) (.cells (arn 384 fun _=>0) 38 (0,0));obtain⟨-,hu,hv⟩:=Yfy.1 hy;rw[Int.toNat_natCast] at hu hv;have hu2:=Yc5.1 hu;have hv2:=Yc5.1 hv
 replace hD3:wD.heap[B+3]? =some (ptO (Ya9 (Ya5 k m f a b) 0)):=hD3
 have cR:=Yfk k v n wD h.slices;rw[hr] at cR;have cH:∀w,Calls Tryz.prog 43 #[.int .i64 k,.int .i64 (m:Int)] w fun e w'=>e=.returned (.bool true)∧w=w':=fun w=>(Yge k m w).mono fun e y h=>⟨h.1.trans (by rw[Ydg.2 ⟨by omega,by simpa using hm⟩]),h.2⟩;have cM:=fun w=>Ylz k m a b w;rw[hy] at cM;have cC:=fun w=>Yem k w;obtain⟨e1,e2,-⟩:=Ybu k;rw[←e1,←e2] at cC;clear e1 e2
 have HF:=Lib.hid (fun(x:World) (hx:Below B w x)=>h.below (by rw[hB];exact hx));have HV:=Lib.hid (Ydr.1 hr).2;have HO:=Lib.hid (fun p (hp:p<3) x=>Ypf k v p x hp (fun p hp=>by obtain⟨a,c,h⟩:=h.slices p hp;exact⟨a,n p,c,h⟩));obtain⟨r1,r2,r3,z0,m1,m2,m3,m4⟩:=Yh6 hm;have HT:=Lib.hid (fun t (ht:t<6) (x:World) (hx:Below B w x) c (lo:Nat) (hc:Yde x lo c (v (plc t)) (wid k (plc t)))=>(by
  obtain⟨e1,e2,e3,e4,e5⟩:=Yk3 (b:=t) hm hu hv ht;have hp:=Yl4 ht;have en:=(Ydr.1 hr).2 _ hp;have hs:=Yf1 k (plc t);obtain⟨h1,h2,-⟩:=Yc2 hm;have hc1:=Ylq hm ht;have hl1:=Yly hm ht;have hw1:=Yez k (plc t)
  exact Ynq c (v (plc t)) (wid k (plc t)) (n (plc t)) (col k m t) (lin k m t) (Yic k m t a) (Yir k m t b) (f (plc t)) (Yd8 t a) (Yd8 t b) x lo hc (h.below (by rw[hB];exact hx) _ hp) (by omega) (by omega) (by omega) e1 e2 e3 e4 (by rw[en];exact e5):
   Calls Tryz.prog 47 #[c,.int .i64 (col k m t:Int),.int .i64 (lin k m t:Int),.agg (Yeq (Yd8 t a) (Yd8 t b))] x fun e w'=>e=.returned (.agg (Yay (Ylp (f (plc t)) (wid k (plc t)) (Yic k m t a) (Yir k m t b))))∧Below x.heap.size x w'))
 have HPB:=Lib.hid (fun t=>Yhi k m f a b t);have hzp:=Ycc;have HSX:=Ydf Yd0 k v;have HS2:=Ydu a b;have HPS:=fun g=>Ya8 g;have HYS:(arn 384 fun _=>0).size=384:=Yaj _ _;obtain⟨X,hX⟩:∃X,frA k v=X:=⟨_,rfl⟩;have hD0':wD.heap[B]? =some (.cells X 25 (0,0)):=by rw[←hX];exact hD0
 replace hD0:wD.heap[B]? =some (frO 25 k v):=hD0
 have ck:=Ycm hD0;rw[hX] at cR hwA HSX ⊢;rw[hX] at HO;obtain⟨Y,hY⟩:∃Y,(arn 384 fun _=>0)=Y:=⟨_,rfl⟩;rw[hY] at hwC hwD hzp HYS hD2;obtain⟨Z,hZ⟩:∃Z,Yeq a b=Z:=⟨_,rfl⟩;rw[hZ] at hwB HS2 hD1 cM ⊢;have HX:=Lib.hid hX;have HY:=Lib.hid hY;have HZ:=Lib.hid hZ;have HWA:=Lib.hid hwA;have HWB:=Lib.hid hwB;have HWC:=Lib.hid hwC;have HWD:=Lib.hid hwD;have HB:=Lib.hid hB
 clear hX hY hZ hwA hwB hwC hwD hB h hr hu hv hy
 go_enter Tryz.func29,Tryz.ntmps29
 go_wp2_with (rw[HWA.out,HB.out,HWB.out,HWC.out,HWD.out];with_reducible refine wpList_load_row rfl 25 _ rfl B rfl 25 X (0,0) _ hD0' Tryz.underlying25 rfl HSX ?_)
 refine cR.mono ?_;rintro e w1 ⟨rfl,hb1⟩;have h0:=(hb1.block B (by omega)).trans hD0;have h1:=(hb1.block (B+1) (by omega)).trans hD1;have h2:=(hb1.block (B+2) (by omega)).trans hD2;have h3:=(hb1.block (B+3) (by omega)).trans hD3;have hbw:=hbD.trans (hb1.mono (by omega));have hz1:B+4≤w1.heap.size:=by have:=hb1.size;omega
 replace ck:=Ycm h0
 clear hb1 hbD hD0 hD0' hD1 hD2 hD3 hzA hzB hzC hzD cR
 go_wp2_with (first|(with_reducible refine(cH _).mono ?_;rintro e x ⟨rfl,rfl⟩)|(with_reducible refine(cC _).mono ?_;rintro e x ⟨rfl,rfl⟩)|(with_reducible refine wpList_load_row rfl 26 _ rfl (B+1) rfl 26 Z (0,0) _ h1 Tryz.underlying26 rfl HS2 ?_))
 refine(cM _).mono ?_;rintro e w2 ⟨rfl,hb1⟩
 replace h0:=(hb1.block B (by omega)).trans h0
 replace h1:=(hb1.block (B+1) (by omega)).trans h1
 replace h2:=(hb1.block (B+2) (by omega)).trans h2
 replace h3:=(hb1.block (B+3) (by omega)).trans h3
 replace hbw:=hbw.trans (hb1.mono (by omega))
 replace hz1:B+4≤w2.heap.size:=by have:=hb1.size;omega
 replace ck:=Ycm h0
 have h0':w2.heap[B]? =some (.cells X 25 (0,0)):=by rw[←HX.out];exact h0
 clear hb1 cM;obtain⟨u,hu⟩:∃u,m%acr k=u:=⟨_,rfl⟩;obtain⟨q,hq⟩:∃q,m / acr k=q:=⟨_,rfl⟩;have hC4:=Lib.hid (fun t (ht:t<4)=>(by unfold col lin plc Yd8;simp only[if_pos ht,hu,hq];exact⟨trivial,trivial,trivial,trivial,trivial⟩:col k m t=2*u+t%2∧lin k m t=2*q+t / 2∧plc t=0∧Yd8 t a=a∧Yd8 t b=b))
 have hC5:=Lib.hid (fun p (hp:p=1∨p=2)=>(by unfold col lin plc Yd8;rcases hp with rfl|rfl <;> simp[hu,hq]:col k m (3+p)=u∧lin k m (3+p)=q∧plc (3+p)=p∧Yd8 (3+p) a=Yfi a∧Yd8 (3+p) b=Yfi b));rw[hu] at r1 m1 hu2;rw[hq] at r2 r3 m2 hv2;generalize acr k=A at *;generalize dow k=D at *;clear hu hq;have HM:=Lib.hid hm;have HZP:=Lib.hid hzp;clear hm hzp
 go_wp2_with (first|(with_reducible refine(cH _).mono ?_;rintro e x ⟨rfl,rfl⟩)|(with_reducible refine(cC _).mono ?_;rintro e x ⟨rfl,rfl⟩)|(with_reducible refine wpList_load_row rfl 25 _ rfl B rfl 25 X (0,0) _ h0' Tryz.underlying25 rfl HSX ?_))
 refine Yag (S:=fun x=>Below w2.heap.size w2 x) 8 (by kernel_rfl) (by kernel_rfl) (Below.refl _ _).drew ?_;simp only[List.take_succ_cons,List.take_zero,List.drop_succ_cons,List.drop_zero];refine Yab (v:=?v0) (by kernel_rfl) ?m ?_;(case m=>(intro x _;go_simp;try with_reducible rfl));simp only[Yaa];refine Yab (v:=?v1) (by kernel_rfl) ?m ?_;(case m=>(intro x _;go_simp;try with_reducible rfl))
 simp only[Yaa];refine Yab (v:=?v2) (by kernel_rfl) ?m ?_;(case m=>(intro x _;go_simp;rw[if_neg (by omega)]));simp only[Yaa];refine Yab (v:=?v3) (by kernel_rfl) ?m ?_;(case m=>(intro x _;go_simp;try with_reducible rfl));simp only[Yaa];refine Yab (v:=?v4) (by kernel_rfl) ?m ?_;(case m=>(intro x _;go_simp;try with_reducible rfl));simp only[Yaa]
 refine Yab (v:=?v5) (by kernel_rfl) ?m ?_;(case m=>(intro x _;go_simp;rw[if_neg (by omega)]));simp only[Yaa];refine Yab (v:=?v6) (by kernel_rfl) ?m ?_;(case m=>(intro x _;go_simp;try with_reducible rfl));simp only[Yaa];refine Yab (v:=?v7) (by kernel_rfl) ?m ?_;(case m=>(intro x _;go_simp;try with_reducible rfl));simp only[Yaa];refine Yar fun x hx=>?_
 replace h0:=(hx.block B (by omega)).trans h0
 replace h1:=(hx.block (B+1) (by omega)).trans h1
 replace h2:=(hx.block (B+2) (by omega)).trans h2
 replace h3:=(hx.block (B+3) (by omega)).trans h3
 replace hbw:=hbw.trans (hx.mono (by omega))
 replace hz1:B+4≤x.heap.size:=by have:=hx.size;omega
 have ho:=HO.out 0 (by omega) x;have hzc:=hz1
 replace h0':x.heap[B]? =some (.cells X 25 (0,0)):=by rw[←HX.out];exact h0
 clear hx ck
 go_wp2_with (with_reducible refine wpList_load_row rfl 25 _ rfl B rfl 25 X (0,0) _ h0' Tryz.underlying25 rfl HSX ?_)
 refine ho.mono ?_;rintro e w3 ⟨c,rfl,hc,hb1⟩
 replace h0:=(hb1.block B (by omega)).trans h0
 replace h1:=(hb1.block (B+1) (by omega)).trans h1
 replace h2:=(hb1.block (B+2) (by omega)).trans h2
 replace h3:=(hb1.block (B+3) (by omega)).trans h3
 replace hbw:=hbw.trans (hb1.mono (by omega))
 replace hz1:B+4≤w3.heap.size:=by have:=hb1.size;omega
 replace hc:=hc.mono hzc
 clear hb1 ho h0' hzc
 go_wp2
 go_loopw [48] (fun z wr=>∃t:Nat,t≤4∧z=.int .i64 t∧wr.heap[B]? =some (frO 25 k v)∧wr.heap[B+1]? =some (.cells Z 26 (0,0))∧wr.heap[B+2]? =some (.cells Y 38 (0,0))∧wr.heap[B+3]? =some (ptO (Ya9 (Ya5 k m f a b) (64*t)))∧Below B w wr∧B+4≤wr.heap.size∧Yde wr (B+4) c (v 0) (wid k 0)) (fun z _=>4-(RowKit.intOf z).toNat)
 case atStart=>exact⟨0,by omega,rfl,h0,h1,h2,h3,hbw,hz1,hc⟩
 case round=>
  clear h0 h1 h2 h3 hbw hz1 hc;obtain⟨t,ht4,rfl,h0,h1,h2,h3,hb,hz,hc⟩:=hrel;by_cases hlt:t<4
  ·have t0:decide ((t:Int)<4)=true:=by simp;omega
   obtain⟨i1,i2,i3,i4,i5⟩:=hC4.out t hlt;have ct:=HT.out t (by omega) wr hb c (B+4) (by rw[i3];exact hc);have hG:=HPB.out t;rw[i1,i2,i3,i4,i5,HZ.out] at ct;rw[i3] at hG;generalize Ylp (f 0) (wid k 0) (Yic k m t a) (Yir k m t b)=G at ct hG;have HSV:=Yan G;obtain⟨V,hV⟩:∃V,Yay G=V:=⟨_,rfl⟩;rw[hV] at ct HSV;have HV2:=Lib.hid hV;have HG:=Lib.hid hG
   have e1:(t:Int).tmod 2=((t%2:Nat):Int):=by rw[Int.tmod_eq_emod_of_nonneg (by omega)];rfl
   have e2:(t:Int).tdiv 2=((t / 2:Nat):Int):=by rw[Int.tdiv_eq_ediv_of_nonneg (by omega)];rfl
   have e3:IntKind.i64.wrap ((t / 2:Nat):Int)=((t / 2:Nat):Int):=Ya1 (by omega);have b1:t%2<2:=by omega
   have b2:t / 2<2:=by omega
   have S1:2*(u:Int)+((t%2:Nat):Int)=((2*u+t%2:Nat):Int):=by omega
   have S2:2*(q:Int)+((t / 2:Nat):Int)=((2*q+t / 2:Nat):Int):=by omega
   have S3:IntKind.i64.wrap ((2*u+t%2:Nat):Int)=((2*u+t%2:Nat):Int):=Ya1 (by omega);have S4:IntKind.i64.wrap ((2*q+t / 2:Nat):Int)=((2*q+t / 2:Nat):Int):=Ya1 (by omega);generalize 2*u+t%2=xx at *;generalize 2*q+t / 2=yy at *;generalize t%2=tm at *;generalize t / 2=tq at *;clear hV hG i1 i2 i3 i4 i5
   go_wp2_with (with_reducible refine wpList_load_row rfl 26 _ rfl (B+1) rfl 26 Z (0,0) _ h1 Tryz.underlying26 rfl HS2 ?_)
   refine ct.mono ?_;rintro e x1 ⟨rfl,hb1⟩;have k0:=(hb1.block B (by omega)).trans h0;have k1:=(hb1.block (B+1) (by omega)).trans h1;have k2:=(hb1.block (B+2) (by omega)).trans h2;have k3:=(hb1.block (B+3) (by omega)).trans h3;have kb:=hb.trans (hb1.mono (by omega));have kz:B+4≤x1.heap.size:=by have:=hb1.size;omega
   have kc:=hc.below hb1;have k3':x1.heap[B+1+1+1]? =some (Yca 38 384 (Ya9 (Ya5 k m f a b) (64*t))):=k3;clear h0 h1 h2 h3 hb hz hc hb1 ct S1 S2 S3 S4 k3
   go_wp2_with (refine Yg9 rfl 36 _ _ rfl (B+1+1+1) t _ (by omega) 38 (Ya5 k m f a b) G V HV2.out rfl rfl k3' (by omega) HG.out HSV ?_;intro w2 hh2 hg2)
   have hb2:Below B w w2:=kb.grown hg2 (by omega) (fun k hk=>by injection hk with hk;omega);have j0:=(hg2.block B (by omega) (by intro e;injection e with e;omega)).trans k0;have j1:=(hg2.block (B+1) (by omega) (by intro e;injection e with e;omega)).trans k1;have j2:=(hg2.block (B+2) (by omega) (by intro e;injection e with e;omega)).trans k2;have jz:B+4≤w2.heap.size:=Nat.le_trans kz hg2.size
   have jc:=kc.grown hg2 (by omega)
   go_roundw
   case rel=>exact⟨t+1,by omega,by go_num,j0,j1,j2,hh2.out,hb2,jz,jc⟩
   case measure=>simp[RowKit.intOf];omega
  ·obtain rfl:t=4:=by omega
   have t0:decide ((4:Int)<4)=false:=by simp
   have h1':wr.heap[B+1]? =some (.cells (Yeq a b) 26 (0,0)):=by rw[HZ.out];exact h1
   have HC2:=Lib.hid (fun(x:World) (hx:Below wr.heap.size wr x)=>Yhp ((hx.block (B+1) (by omega)).trans h1'));have C1:=Lib.hid (fun(x:World) (hx:Below wr.heap.size wr x)=>((Yf8 a x).mono fun e y h=>⟨h.1,h.2▸hx⟩:Calls Tryz.prog 48 #[.int .i64 a] x fun e y=>e=.returned (.int .i64 (Yfi a))∧Below wr.heap.size wr y))
   have C2:=Lib.hid (fun(x:World) (hx:Below wr.heap.size wr x)=>((Yf8 b x).mono fun e y h=>⟨h.1,h.2▸hx⟩:Calls Tryz.prog 48 #[.int .i64 b] x fun e y=>e=.returned (.int .i64 (Yfi b))∧Below wr.heap.size wr y));have hca:=Yoa a;have hcb:=Yoa b;generalize Yfi a=a' at *;generalize Yfi b=b' at *;clear hc h1'
   go_wp2
   refine Yag (S:=fun x=>Below wr.heap.size wr x) 7 (by kernel_rfl) (by kernel_rfl) (Below.refl _ _).drew ?_;simp only[List.take_succ_cons,List.take_zero,List.drop_succ_cons,List.drop_zero];refine Yab (v:=?vc0) (by kernel_rfl) ?m ?_;(case m=>(intro x _;go_simp;try with_reducible rfl));simp only[Yaa]
   refine Yaf 3 _ ⟨B+1,0,none⟩ (.int .i64 a) (by kernel_rfl) rfl rfl (fun x hx=>by have c0:=(HC2.out x hx).1;go_simp) ?_;simp only[Yaa];refine Yai (by kernel_rfl) C1.out (fun _=>by kernel_rfl) ?_;simp only[Yaa];refine Yab (v:=?vc3) (by kernel_rfl) ?m ?_;(case m=>(intro x _;go_simp;try with_reducible rfl));simp only[Yaa]
   refine Yaf 3 _ ⟨B+1,1,none⟩ (.int .i64 b) (by kernel_rfl) rfl rfl (fun x hx=>by have c0:=(HC2.out x hx).2;go_simp) ?_;simp only[Yaa];refine Yai (by kernel_rfl) C2.out (fun _=>by kernel_rfl) ?_;simp only[Yaa];refine Yab (v:=?vc6) (by kernel_rfl) ?m ?_;(case m=>(intro x _;go_simp;try with_reducible rfl));simp only[Yaa];refine Yar fun x hx=>?_;have k0:=(hx.block B (by omega)).trans h0
   have k1:=(hx.block (B+1) (by omega)).trans h1;have k2:=(hx.block (B+2) (by omega)).trans h2;have k3:=(hx.block (B+3) (by omega)).trans h3;have kb:=hb.trans (hx.mono (by omega));have kz:B+4≤x.heap.size:=by have:=hx.size;omega
   have HZS:Z.size=2:=by rw[←HZ.out];rfl
   go_wp2_with (refine Yad rfl 26 _ _ rfl (B+1) #[.int .i64 a',.int .i64 b'] Z rfl rfl 26 k1 (Ydu a' b') HZS (Ytp a' b') ?_;intro w2 hh2 hg2)
   have hC2:∃Z2,Yeq a' b'=Z2:=⟨_,rfl⟩;obtain⟨Z2,hZ2⟩:=hC2;have HSZ2:(Tryz.prog.info? 26).map (·.size)=some Z2.size:=by rw[←hZ2];exact Ydu a' b'
   have j0:=(hg2.block B (by omega) (by intro e;injection e with e;omega)).trans k0;have j1:w2.heap[B+1]? =some (.cells Z2 26 (0,0)):=by rw[←hZ2];exact hh2
   have j2:=(hg2.block (B+2) (by omega) (by intro e;injection e with e;omega)).trans k2;have j3:w2.heap[B+3]? =some (Yca 38 384 (Ya9 (Ya5 k m f a b) (64*(3+1)))):=(hg2.block (B+3) (by omega) (by intro e;injection e with e;omega)).trans k3;have jb:Below B w w2:=kb.grown hg2 (by omega) (fun k hk=>by injection hk with hk;omega);have jz:B+4≤w2.heap.size:=Nat.le_trans kz hg2.size;have HZ2:=Lib.hid hZ2
   clear h0 h1 h2 h3 hb hz k0 k1 k2 k3 kb kz hx hh2 hg2 hZ2 C1 C2 HC2;generalize wr=wo at *
   go_loopw [15] (fun z wr=>∃p:Nat,(p=1∨p=2∨p=3)∧z=.int .i64 p∧wr.heap[B]? =some (frO 25 k v)∧wr.heap[B+1]? =some (.cells Z2 26 (0,0))∧wr.heap[B+2]? =some (.cells Y 38 (0,0))∧wr.heap[B+3]? =some (Yca 38 384 (Ya9 (Ya5 k m f a b) (64*(3+p))))∧Below B w wr∧B+4≤wr.heap.size) (fun z _=>3-(RowKit.intOf z).toNat)
   case atStart=>exact⟨1,.inl rfl,rfl,j0,j1,j2,j3,jb,jz⟩
   case round=>
    clear j0 j1 j2 j3 jb jz;obtain⟨p,hp3,rfl,h0,h1,h2,h3,hb,hz⟩:=hrel;by_cases hlt:p<3
    ·have hp:p=1∨p=2:=by omega
     have t1:decide ((p:Int)<3)=true:=by simp;omega
     obtain⟨i1,i2,i3,i4,i5⟩:=hC5.out p hp;have ho:=HO.out p (by omega);have h0':wr.heap[B]? =some (.cells X 25 (0,0)):=by rw[←HX.out];exact h0
     obtain⟨t,ht⟩:∃t,3+p=t:=⟨_,rfl⟩;have ht6:t<6:=by omega
     have hp6:=Lib.hid ht6;obtain⟨t1,ht1⟩:∃t1,t+1=t1:=⟨_,rfl⟩;have S1:(4:Int)+(p:Int)=(t1:Int):=by omega
     have S2:(t1:Int)-1=(t:Int):=by omega
     have S3:IntKind.i64.wrap (t1:Int)=(t1:Int):=Ya1 (by omega);have S4:IntKind.i64.wrap (t:Int)=(t:Int):=Ya1 (by omega);rw[ht] at i1 i2 i3 i4 i5 h3;have h4:64*(t+1)=64*(3+(p+1)):=by omega
     have H4:=Lib.hid h4;have HTP:=Lib.hid ht;clear ht1 h4 ht;have hG:=HPB.out t;rw[i3] at hG;generalize hGG:Ylp (f p) (wid k p) (Yic k m t a) (Yir k m t b)=G at hG;have HSV:=Yan G;obtain⟨V,hV⟩:∃V,Yay G=V:=⟨_,rfl⟩;rw[hV] at HSV;have HVV:=Lib.hid hV;rw[←hGG] at hV
     replace hV:=Lib.hid hV
     have HG:=Lib.hid hG;clear hG hGG
     go_wp2
     refine wp_region_held_drew (S:=(fun x=>Below B w x∧x.heap[B]? =some (.cells X 25 (0,0))∧x.heap[B+1]? =some (.cells Z2 26 (0,0)))) (by kernel_rfl) ⟨hb.drew,h0',h1⟩ (fun hH=>?_);refine Yen 0 (some 78) rfl rfl hH (by kernel_rfl) (fun x _=>by go_simp;try with_reducible rfl) ?_
     try simp only[Yaa]
     refine Yen 1 (some 79) rfl rfl hH (by kernel_rfl) (fun x _=>by go_simp;try with_reducible rfl) ?_
     try simp only[Yaa]
     refine Yen 2 (some 80) rfl rfl hH (by kernel_rfl) (fun x _=>by go_simp;try with_reducible rfl) ?_
     try simp only[Yaa]
     refine Yd1 3 (some 81) (v:=.agg X) rfl rfl (by kernel_rfl) (by kernel_rfl) (by kernel_rfl) (fun _ _ _ h=>h) hH (Or.inl ⟨by kernel_rfl,fun x hx=>Ybs (ty:=25) (x:=.tmp 3) (ad:=⟨B,0,none⟩) (by kernel_rfl) (by kernel_rfl) (run_loadVar_row x (B) _ _ X (0,0) _ (hx.2.1) Tryz.underlying25 rfl HSX)⟩) ?_
     try simp only[Yaa]
     refine Yen 4 (some 82) rfl rfl hH (by kernel_rfl) (fun x _=>by go_simp;try with_reducible rfl) ?_
     try simp only[Yaa]
     refine Yen 6 (some 84) rfl rfl hH (by kernel_rfl) (fun x _=>by go_simp;try with_reducible rfl) ?_
     try simp only[Yaa]
     refine Yen 7 (some 85) rfl rfl hH (by kernel_rfl) (fun x _=>by go_simp;try with_reducible rfl) ?_
     try simp only[Yaa]
     refine Yd1 8 (some 86) (v:=.agg Z2) rfl rfl (by kernel_rfl) (by kernel_rfl) (by kernel_rfl) (fun _ _ _ h=>h) hH (Or.inl ⟨by kernel_rfl,fun x hx=>Ybs (ty:=26) (x:=.tmp 5) (ad:=⟨B+1,0,none⟩) (by kernel_rfl) (by kernel_rfl) (run_loadVar_row x (B+1) _ _ Z2 (0,0) _ (hx.2.2) Tryz.underlying26 rfl HSZ2)⟩) ?_
     try simp only[Yaa]
     refine wpAnyH_ready (rs:=[5]) (by kernel_rfl) (by simp) ?_;refine AllReadyH.cons rfl (fun K hK=>?_) AllReadyH.nil
     go_simp
     go_wp2_with fail
     refine(ho _).mono ?_;rintro e x1 ⟨c1,rfl,hc,hb1⟩;have hc2:=hc.mono (show B+4≤wr.drew.heap.size from hz);have k2:=(hb1.block (B+2) (show B+2<wr.heap.size by omega)).trans h2;have k3:=(hb1.block (B+3) (show B+3<wr.heap.size by omega)).trans h3;have kz:B+4≤x1.heap.size:=Nat.le_trans hz hb1.size;clear hc
     refine hK.out _ _ (⟨hH.1.trans (hb1.mono (show B≤wr.heap.size by omega)),(hb1.block B (show B<wr.heap.size by omega)).trans hH.2.1,(hb1.block (B+1) (show B+1<wr.heap.size by omega)).trans hH.2.2⟩) (fun hH2=>?_);clear hK K hH;have hH:=hH2;clear hH2
     try simp only[Yaa]
     refine wpAnyH_ready (rs:=[9]) (by kernel_rfl) (by simp) ?_;refine AllReadyH.cons rfl (fun K hK=>?_) AllReadyH.nil
     go_simp
     go_wp2_with fail
     have ct:=HT.out t hp6 x1 hH.1 c1 (B+4) (by rw[i3];exact hc2);rw[i1,i2,i3,i4,i5,HZ2.out,hV.out] at ct;refine ct.mono ?_;rintro e x2 ⟨rfl,hb2⟩;have l2:=(hb2.block (B+2) (by omega)).trans k2;have l3:=(hb2.block (B+3) (by omega)).trans k3;have lz:B+4≤x2.heap.size:=Nat.le_trans kz hb2.size
     refine hK.out _ _ (⟨hH.1.trans (hb2.mono (by omega)),(hb2.block B (by omega)).trans hH.2.1,(hb2.block (B+1) (by omega)).trans hH.2.2⟩) (fun hH2=>?_);clear hK K hH;have hH:=hH2;clear hH2
     try simp only[Yaa]
     refine Yen 10 (some 88) (v:=.pointer (some ⟨B+1+1+1,t*64,none⟩)) rfl rfl hH (by kernel_rfl) (fun x _=>by go_simp;first|rw[if_pos (by omega)]|exact fun h6=>absurd h6 (by omega)) ?_
     try simp only[Yaa]
     refine wpAnyH_ready (rs:=[11]) (by kernel_rfl) (by simp) ?_;refine AllReadyH.cons rfl (fun K hK=>?_) AllReadyH.nil;refine(if_pos (by kernel_rfl)).mpr ?_;refine Yfr 36 _ _ rfl (B+1+1+1) t _ (by omega) 38 (Ya5 k m f a b) G V HVV.out rfl rfl l3 ht6 HG.out HSV (fun w5 hh5 hg5=>?_);have n0:=(hg5.block B (by omega) (by intro e;injection e with e;omega)).trans hH.2.1
     have n1:=(hg5.block (B+1) (by omega) (by intro e;injection e with e;omega)).trans hH.2.2;have n2:=(hg5.block (B+2) (by omega) (by intro e;injection e with e;omega)).trans l2;have nb:Below B w w5:=hH.1.grown hg5 (by omega) (fun k hk=>by injection hk with hk;omega);have nz:B+4≤w5.heap.size:=Nat.le_trans lz hg5.size;refine hK.out _ _ ⟨nb,n0,n1⟩ (fun hH2=>?_);clear hK K hH hH2
     try simp only[Act.put]
     refine wpAnyH_done (by kernel_rfl) ?_ _;have n3:w5.heap[B+3]? =some (Yca 38 384 (Ya9 (Ya5 k m f a b) (64*(3+(p+1))))):=by rw[←H4.out];exact hh5.out
     have n0':w5.heap[B]? =some (frO 25 k v):=by rw[←HX.out] at n0;exact n0
     clear h0 h1 h2 h3 hb hz hb1 hb2 k2 k3 kz l2 l3 lz ct hc2 hg5 hh5 n0 h0' S1 S2 S3 S4
     go_wp2
     go_roundw
     case rel=>exact⟨p+1,by omega,by go_num,n0',n1,n2,n3,nb,nz⟩
     case measure=>simp[RowKit.intOf];omega
    ·obtain rfl:p=3:=by omega
     have t1:decide ((3:Int)<3)=false:=by simp
     have HSV:=HPS (Ya9 (Ya5 k m f a b) (64*6));have HOV:=Yau 384 (Ya9 (Ya5 k m f a b) (64*6));have HVS:(arn 384 (Ya9 (Ya5 k m f a b) (64*6))).size=384:=Yaj _ _;have HVE:arn 384 (Ya9 (Ya5 k m f a b) (64*6))=arn 384 (Ya5 k m f a b):=Ybq (Ych 384 (Ya5 k m f a b));have h3':wr.heap[B+3]? =some (.cells (arn 384 (Ya9 (Ya5 k m f a b) (64*6))) 38 (0,0)):=h3;clear h3;rw[HVE] at HSV HOV HVS h3'
     obtain⟨V,hV⟩:∃V,arn 384 (Ya5 k m f a b)=V:=⟨_,rfl⟩;rw[hV] at HSV HOV HVS h3';have HVV:=Lib.hid hV;have HYV:Y.size=V.size:=by rw[HYS,HVS]
     clear HVE hV
     go_wp2_with (first|(with_reducible refine wpList_load_row rfl 38 _ rfl (B+3) rfl 38 V (0,0) _ h3' Tryz.underlying38 rfl HSV ?_)|(with_reducible refine Yad rfl 38 _ _ rfl (B+2) V Y rfl rfl 38 h2 HSV HYV HOV ?_;intro w4 hh4 hg4))
     refine bodyPost_ret (Yam rfl _ _ (B+2) 38 _ (0,0) _ rfl hh4 Tryz.underlying38 rfl HSV) rfl ?_;exact⟨by rw[HVV.out];rfl,by rw[HB.out];exact hb.grown hg4 (by omega) (fun k hk=>by injection hk with hk;omega)⟩
set_option maxRecDepth 1000000 in
set_option maxHeartbeats 8000000 in
theorem Ypn (k:Int)(v:Nat→Value)(n:Nat→Nat)(m a b:Int)(w:World)(h:∀p,p<3→∃a c,v p=.slice a (n p) c)(hno:(Ybf k n&&Ygj k m a b)=false):
  Calls Tryz.prog 29 #[.agg (frA k v),.int .i64 m,.agg (Yeq a b)] w fun e w'=>e=.returned (.tuple #[.agg (arn 384 fun _=>0),.int .i64 (if Ybf k n&&Yjk k m then 8 else 1)])∧Below w.heap.size w w':=by
 obtain⟨B,wA,wB,wC,wD,hB,hwA,hwB,hwC,hwD,hzA,hzB,hzC,hzD,hD0,hD1,hD2,hD3,hbD⟩:=Ym2 w (.cells (frA k v) 25 (0,0)) (.cells (Yeq a b) 26 (0,0)) (.cells (arn 384 fun _=>0) 38 (0,0)) (.cells (arn 384 fun _=>0) 38 (0,0));have cR:=Yfk k v n wD h;have cH:=fun w=>Yge k m w;have cM:=fun w=>Ylz k m a b w;have hzp:=Ycc;have HSX:=Ydf Yd0 k v;have HS2:=Ydu a b;have HYS:(arn 384 fun _=>0).size=384:=Yaj _ _
 have HSY:=Ya8 fun _=>0;have HOY:=Yau 384 fun _=>0;obtain⟨X,hX⟩:∃X,frA k v=X:=⟨_,rfl⟩;have hD0':wD.heap[B]? =some (.cells X 25 (0,0)):=by rw[←hX];exact hD0
 replace hD0:wD.heap[B]? =some (frO 25 k v):=hD0
 rw[hX] at cR hwA HSX ⊢;obtain⟨Y,hY⟩:∃Y,(arn 384 fun _=>0)=Y:=⟨_,rfl⟩;rw[hY] at hwC hwD hzp HYS hD2 hD3 HSY HOY ⊢;obtain⟨Z,hZ⟩:∃Z,Yeq a b=Z:=⟨_,rfl⟩;rw[hZ] at hwB HS2 hD1 cM ⊢;have HYY:Y.size=Y.size:=rfl;have HX:=Lib.hid hX;have HY:=Lib.hid hY;have HZ:=Lib.hid hZ;have HWA:=Lib.hid hwA;have HWB:=Lib.hid hwB;have HWC:=Lib.hid hwC;have HWD:=Lib.hid hwD;have HB:=Lib.hid hB
 clear hX hY hZ hwA hwB hwC hwD hB h;cases hr:Ybf k n with
 |false=>
  rw[hr] at cR
  go_enter Tryz.func29,Tryz.ntmps29
  go_wp2_with (rw[HWA.out,HB.out,HWB.out,HWC.out,HWD.out];with_reducible refine wpList_load_row rfl 25 _ rfl B rfl 25 X (0,0) _ hD0' Tryz.underlying25 rfl HSX ?_)
  refine cR.mono ?_;rintro e w1 ⟨rfl,hb1⟩;have h2:=(hb1.block (B+2) (by omega)).trans hD2;have h3:=(hb1.block (B+3) (by omega)).trans hD3;have hbw:=hbD.trans (hb1.mono (by omega))
  go_wp2_with (first|(with_reducible refine wpList_load_row rfl 38 _ rfl (B+3) rfl 38 Y (0,0) _ h3 Tryz.underlying38 rfl HSY ?_)|(with_reducible refine Yad rfl 38 _ _ rfl (B+2) Y Y rfl rfl 38 h2 HSY rfl HOY ?_;intro w4 hh4 hg4))
  refine bodyPost_ret (Yam rfl _ _ (B+2) 38 _ (0,0) _ rfl hh4 Tryz.underlying38 rfl HSY) rfl ?_;exact⟨by rfl,by rw[HB.out];exact hbw.grown hg4 (by have:=hb1.size;omega) (fun k hk=>by injection hk with hk;omega)⟩
 |true=>
  rw[hr] at cR hno;rw[Bool.true_and] at hno;have hz4:B+4≤wD.heap.size:=by omega
  cases hc:Yjk k m with
  |false=>
   rw[hc] at cH
   go_enter Tryz.func29,Tryz.ntmps29
   go_wp2_with (rw[HWA.out,HB.out,HWB.out,HWC.out,HWD.out];with_reducible refine wpList_load_row rfl 25 _ rfl B rfl 25 X (0,0) _ hD0' Tryz.underlying25 rfl HSX ?_)
   refine cR.mono ?_;rintro e w1 ⟨rfl,hb1⟩;have h0:=(hb1.block B (by omega)).trans hD0;have h2:=(hb1.block (B+2) (by omega)).trans hD2;have h3:=(hb1.block (B+3) (by omega)).trans hD3;have hbw:=hbD.trans (hb1.mono (by omega));have ck:=Ycm h0
   go_wp2_with (first|(with_reducible refine(cH _).mono ?_;rintro e x ⟨rfl,rfl⟩)|(with_reducible refine wpList_load_row rfl 38 _ rfl (B+3) rfl 38 Y (0,0) _ h3 Tryz.underlying38 rfl HSY ?_)|(with_reducible refine Yad rfl 38 _ _ rfl (B+2) Y Y rfl rfl 38 h2 HSY rfl HOY ?_;intro w4 hh4 hg4))
   refine bodyPost_ret (Yam rfl _ _ (B+2) 38 _ (0,0) _ rfl hh4 Tryz.underlying38 rfl HSY) rfl ?_;exact⟨by rfl,by rw[HB.out];exact hbw.grown hg4 (by have:=hb1.size;omega) (fun k hk=>by injection hk with hk;omega)⟩
  |true=>
   rw[hc] at cH;rw[hno] at cM
   go_enter Tryz.func29,Tryz.ntmps29
   go_wp2_with (rw[HWA.out,HB.out,HWB.out,HWC.out,HWD.out];with_reducible refine wpList_load_row rfl 25 _ rfl B rfl 25 X (0,0) _ hD0' Tryz.underlying25 rfl HSX ?_)
   refine cR.mono ?_;rintro e w1 ⟨rfl,hb1⟩;have h0:=(hb1.block B (by omega)).trans hD0;have h1:=(hb1.block (B+1) (by omega)).trans hD1;have h2:=(hb1.block (B+2) (by omega)).trans hD2;have h3:=(hb1.block (B+3) (by omega)).trans hD3;have hbw:=hbD.trans (hb1.mono (by omega));have hz1:B+4≤w1.heap.size:=by have:=hb1.size;omega
   have ck:=Ycm h0
   go_wp2_with (first|(with_reducible refine(cH _).mono ?_;rintro e x ⟨rfl,rfl⟩)|(with_reducible refine wpList_load_row rfl 26 _ rfl (B+1) rfl 26 Z (0,0) _ h1 Tryz.underlying26 rfl HS2 ?_))
   refine(cM _).mono ?_;rintro e w2 ⟨rfl,hb2⟩;have k2:=(hb2.block (B+2) (by omega)).trans h2;have k3:=(hb2.block (B+3) (by omega)).trans h3;have kb:=hbw.trans (hb2.mono (by omega));have kz:B+4≤w2.heap.size:=Nat.le_trans hz1 hb2.size;clear h0 h1 h2 h3 hb1 hb2 hbw ck
   go_wp2_with (first|(with_reducible refine wpList_load_row rfl 38 _ rfl (B+3) rfl 38 Y (0,0) _ k3 Tryz.underlying38 rfl HSY ?_)|(with_reducible refine Yad rfl 38 _ _ rfl (B+2) Y Y rfl rfl 38 k2 HSY rfl HOY ?_;intro w4 hh4 hg4))
   refine bodyPost_ret (Yam rfl _ _ (B+2) 38 _ (0,0) _ rfl hh4 Tryz.underlying38 rfl HSY) rfl ?_;exact⟨by rfl,by rw[HB.out];exact kb.grown hg4 (by omega) (fun k hk=>by injection hk with hk;omega)⟩
set_option maxRecDepth 1000000 in
set_option maxHeartbeats 8000000 in
theorem Yrc (k:Int)(v:Nat→Value)(n p x y:Nat)(f:Nat→Int)(w:World)(hp:p<3)(hv:Ykj w (v p) n f)(hn:n≤1073741824)(hx:x≤10000)(hy:y≤10000)(hin:y / 2*wid k p+x / 2+y%2*wid k p+x%2<n):
  Calls Tryz.prog 34 #[.agg (frA k v),.int .i64 (p:Int),.int .i64 (x:Int),.int .i64 (y:Int)] w fun e w'=>e=.returned (.int .i64 (Yjj f (wid k p) x y))∧Below w.heap.size w w':=by
 obtain⟨B,hB⟩:∃B,w.heap.size=B:=⟨_,rfl⟩;obtain⟨wA,hwA⟩:∃wA,w.alloc (.cells (frA k v) 25 (0,0))=wA:=⟨_,rfl⟩;have hA0:wA.heap[B]? =some (frO 25 k v):=by rw[←hwA,←hB];exact heap_alloc_new w _
 have hbA:Below B w wA:=by rw[←hwA,←hB];exact(Below.refl _ w).alloc (Nat.le_refl _) _
 have hzA:wA.heap.size=B+1:=by rw[←hwA,←hB];simp
 obtain⟨X,hX⟩:∃X,frA k v=X:=⟨_,rfl⟩;have HSX:=Ydf Yd0 k v;rw[hX] at hwA HSX ⊢;have e1:(x:Int).tmod 2=((x%2:Nat):Int):=by rw[Int.tmod_eq_emod_of_nonneg (by omega)];rfl
 have e2:(y:Int).tmod 2=((y%2:Nat):Int):=by rw[Int.tmod_eq_emod_of_nonneg (by omega)];rfl
 have e3:(x:Int).tdiv 2=((x / 2:Nat):Int):=by rw[Int.tdiv_eq_ediv_of_nonneg (by omega)];rfl
 have e4:(y:Int).tdiv 2=((y / 2:Nat):Int):=by rw[Int.tdiv_eq_ediv_of_nonneg (by omega)];rfl
 have e5:(x:Int)%2=((x%2:Nat):Int):=rfl;have e6:(y:Int)%2=((y%2:Nat):Int):=rfl;have e7:(x:Int) / 2=((x / 2:Nat):Int):=rfl;have e8:(y:Int) / 2=((y / 2:Nat):Int):=rfl;have b1:x%2≤1:=by omega
 have b2:y%2≤1:=by omega
 have b3:x / 2≤5000:=by omega
 have b4:y / 2≤5000:=by omega
 have hq:=Lib.hid (show Yjj f (wid k p) x y=(f (y / 2*wid k p+x / 2)+f (y / 2*wid k p+x / 2+x%2)+(f (y / 2*wid k p+x / 2+y%2*wid k p)+f (y / 2*wid k p+x / 2+y%2*wid k p+x%2))+2) / 4 from rfl);generalize Yjj f (wid k p) x y=res at *;have g1:y / 2*wid k p+x / 2+x%2=y / 2*wid k p+(x / 2+x%2):=by omega
 have g2:y / 2*wid k p+x / 2+y%2*wid k p=(y / 2+y%2)*wid k p+x / 2:=by rw[Nat.add_mul];omega
 have g3:y / 2*wid k p+x / 2+y%2*wid k p+x%2=(y / 2+y%2)*wid k p+(x / 2+x%2):=by rw[Nat.add_mul];omega
 have j0:y / 2*wid k p+x / 2<n:=by omega
 have j1:y / 2*wid k p+(x / 2+x%2)<n:=by omega
 have j2:(y / 2+y%2)*wid k p+x / 2<n:=by rw[←g2];omega
 have j3:(y / 2+y%2)*wid k p+(x / 2+x%2)<n:=by rw[←g3];omega
 rw[g3,g1,g2] at hq;have K:∀(x y:World),Below (B+1) wA x→Below x.heap.size x y→Below (B+1) wA y:=fun x y hx hy=>hx.trans (hy.mono (by have:=hx.size;omega));have HV:=fun(x:World) (hx:Below (B+1) wA x)=>hv.below (by rw[hB];exact hbA.trans (hx.mono (by omega)):Below w.heap.size w x)
 have C0:=Lib.hid (fun(z:World) (hz:Below (B+1) wA z)=>(Yhz k v n p (x / 2) (y / 2) f z hp (HV z hz) hn j0).mono fun e y h=>(⟨h.1,K _ _ hz h.2⟩:_∧Below (B+1) wA y));have C1:=Lib.hid (fun(z:World) (hz:Below (B+1) wA z)=>(Yhz k v n p (x / 2+x%2) (y / 2) f z hp (HV z hz) hn j1).mono fun e y h=>(⟨h.1,K _ _ hz h.2⟩:_∧Below (B+1) wA y))
 have C2:=Lib.hid (fun(z:World) (hz:Below (B+1) wA z)=>(Yhz k v n p (x / 2) (y / 2+y%2) f z hp (HV z hz) hn j2).mono fun e y h=>(⟨h.1,K _ _ hz h.2⟩:_∧Below (B+1) wA y));have C3:=Lib.hid (fun(z:World) (hz:Below (B+1) wA z)=>(Yhz k v n p (x / 2+x%2) (y / 2+y%2) f z hp (HV z hz) hn j3).mono fun e y h=>(⟨h.1,K _ _ hz h.2⟩:_∧Below (B+1) wA y));have q0:=hv.range _ j0;have q1:=hv.range _ j1
 have q2:=hv.range _ j2;have q3:=hv.range _ j3;rw[hX] at C0 C1 C2 C3;have HX0:=Lib.hid (fun(z:World) (hz:Below (B+1) wA z)=>(by rw[←hX];exact(hz.block B (by omega)).trans hA0:z.heap[B]? =some (.cells X 25 (0,0))));have HE:=Lib.hid (fun(z:World) (hz:Below (B+1) wA z)=>(by rw[hB];exact hbA.trans (hz.mono (by omega)):Below w.heap.size w z))
 have X1:((x / 2:Nat):Int)+((x%2:Nat):Int)=((x / 2+x%2:Nat):Int):=by omega
 have Y1:((y / 2:Nat):Int)+((y%2:Nat):Int)=((y / 2+y%2:Nat):Int):=by omega
 have b5:x / 2+x%2≤5001:=by omega
 have b6:y / 2+y%2≤5001:=by omega
 generalize f (y / 2*wid k p+x / 2)=z0 at *;generalize f (y / 2*wid k p+(x / 2+x%2))=z1 at *;generalize f ((y / 2+y%2)*wid k p+x / 2)=z2 at *;generalize f ((y / 2+y%2)*wid k p+(x / 2+x%2))=z3 at *;clear g1 g2 g3 j0 j1 j2 j3 hin HV K hv hA0 hbA;generalize x / 2+x%2=x1 at *;generalize y / 2+y%2=y1 at *;generalize x%2=xr at *;generalize y%2=yr at *;generalize x / 2=xq at *;generalize y / 2=yq at *
 have u1:IntKind.i64.wrap (x1:Int)=(x1:Int):=Ya1 (by omega);have u2:IntKind.i64.wrap (y1:Int)=(y1:Int):=Ya1 (by omega);have u3:IntKind.i64.wrap (xq:Int)=(xq:Int):=Ya1 (by omega);have u4:IntKind.i64.wrap (yq:Int)=(yq:Int):=Ya1 (by omega);have dd:(z0+z1+z2+z3+2).tdiv 4=res:=by rw[Int.tdiv_eq_ediv_of_nonneg (by omega),hq.out];congr 1;omega
 have rr:0≤res∧res≤255:=by rw[hq.out];omega
 have ww:IntKind.i64.wrap res=res:=Ycv (by omega);clear hq;obtain⟨S4,hS4⟩:∃S4:Nat→Int,S4=fun i=>if i=0 then 0 else if i=1 then z0 else if i=2 then z0+z1 else if i=3 then z0+z1+z2 else z0+z1+z2+z3:=⟨_,rfl⟩
 have s0:S4 0=0:=by rw[hS4];rfl
 have s1:S4 1=z0:=by rw[hS4];rfl
 have s2:S4 2=z0+z1:=by rw[hS4];rfl
 have s3:S4 3=z0+z1+z2:=by rw[hS4];rfl
 have s4:S4 4=z0+z1+z2+z3:=by rw[hS4];rfl
 have H0:=Lib.hid s0;have H1:=Lib.hid s1;have H2:=Lib.hid s2;have H3:=Lib.hid s3;have H4:=Lib.hid s4;have hS0:Below (B+1) wA wA:=Below.refl _ _;have HWA:=Lib.hid hwA;have HB:=Lib.hid hB;clear hX hwA hB hzA hS4 s0 s1 s2 s3 s4
 go_enter Tryz.func34,Tryz.ntmps34
 go_wp2
 rw[HWA.out,HB.out]
 go_loopw [11,12] (fun s z wr=>∃i:Nat,i≤4∧z=.int .i64 i∧s=.int .i64 (S4 i)∧Below (B+1) wA wr) (fun _ z _=>4-(RowKit.intOf z).toNat)
 case atStart=>exact⟨0,by omega,rfl,by rw[H0.out],hS0⟩
 case round=>
  obtain⟨i,hi4,rfl,rfl,hx⟩:=hrel;have hi:i=0∨i=1∨i=2∨i=3∨i=4:=by omega
  have h00:=HX0.out _ hx;rcases hi with rfl|rfl|rfl|rfl|rfl
  case _=>
   have cc:=C0.out _ hx;rw[H0.out]
   go_wp2_with (with_reducible refine wpList_load_row rfl 25 _ rfl B rfl 25 X (0,0) _ h00 Tryz.underlying25 rfl HSX ?_)
   refine cc.mono ?_;rintro e x2 ⟨rfl,hx2⟩;clear hx h00 cc
   go_wp2
   go_roundw
   case rel=>exact⟨1,by omega,by go_num,by rw[H1.out],hx2⟩
   case measure=>simp[RowKit.intOf]
  case _=>
   have cc:=C1.out _ hx;rw[H1.out]
   go_wp2_with (with_reducible refine wpList_load_row rfl 25 _ rfl B rfl 25 X (0,0) _ h00 Tryz.underlying25 rfl HSX ?_)
   refine cc.mono ?_;rintro e x2 ⟨rfl,hx2⟩;clear hx h00 cc
   go_wp2
   go_roundw
   case rel=>exact⟨2,by omega,by go_num,by rw[H2.out],hx2⟩
   case measure=>simp[RowKit.intOf]
  case _=>
   have cc:=C2.out _ hx;rw[H2.out]
   go_wp2_with (with_reducible refine wpList_load_row rfl 25 _ rfl B rfl 25 X (0,0) _ h00 Tryz.underlying25 rfl HSX ?_)
   refine cc.mono ?_;rintro e x2 ⟨rfl,hx2⟩;clear hx h00 cc
   go_wp2
   go_roundw
   case rel=>exact⟨3,by omega,by go_num,by rw[H3.out],hx2⟩
   case measure=>simp[RowKit.intOf]
  case _=>
   have cc:=C3.out _ hx;rw[H3.out]
   go_wp2_with (with_reducible refine wpList_load_row rfl 25 _ rfl B rfl 25 X (0,0) _ h00 Tryz.underlying25 rfl HSX ?_)
   refine cc.mono ?_;rintro e x2 ⟨rfl,hx2⟩;clear hx h00 cc
   go_wp2
   go_roundw
   case rel=>exact⟨4,by omega,by go_num,by rw[H4.out],hx2⟩
   case measure=>simp[RowKit.intOf]
  case _=>
   rw[H4.out];clear h00
   go_wp2
   go_ret
   exact⟨rfl,HE.out _ hx⟩
set_option maxRecDepth 1000000 in
set_option maxHeartbeats 8000000 in
theorem Ypo (k:Int)(v:Nat→Value)(n:Nat→Nat)(f:Nat→Nat→Int)(m:Nat)(a b:Int)(w:World)(h:Yiw w v n f)(hr:Ybf k n=true)(hm:m<Ybr k)(hy:Ygj k m a b=true):
  Calls Tryz.prog 24 #[.agg (frA k v),.int .i64 (m:Int),.agg (Yeq a b)] w fun e w'=>e=.returned (.agg (arn 384 (Ya5 k m f a b)))∧Below w.heap.size w w':=by
 obtain⟨B,wA,wB,wC,wD,hB,hwA,hwB,hwC,hwD,hzA,hzB,hzC,hzD,hD0,hD1,hD2,hD3,hbD⟩:=Ym2 w (.cells (frA k v) 25 (0,0)) (.cells (Yeq a b) 26 (0,0)) (.cells (arn 384 fun _=>0) 38 (0,0)) (.cells (arn 384 fun _=>0) 38 (0,0));obtain⟨-,hu,hv⟩:=Yfy.1 hy;rw[Int.toNat_natCast] at hu hv;have hu2:=(Yc5.1 hu).1;have hv2:=(Yc5.1 hv).1
 replace hD3:wD.heap[B+3]? =some (ptO (Ya9 (Ya5 k m f a b) 0)):=hD3
 have CP:=Lib.hid (fun t i (ht:t<6) (hi:i<64) x=>Ym9 k m t i x hm ht hi);have CA:=Lib.hid (fun t i (ht:t<6) (hi:i<64) x (hx:Below B w x)=>(by
  obtain⟨-,-,e3,e4,e5⟩:=Yk3 (b:=t) hm hu hv ht;have hp:=Yl4 ht;have en:=(Ydr.1 hr).2 _ hp;have hs:=Yf1 k (plc t);have hq:=Yhi k m f a b t i hi;unfold Ylp at hq;rw[←hq];exact Yrc k v (n (plc t)) (plc t) (Yic k m t a+2*(i%8)) (Yir k m t b+2*(i / 8)) (f (plc t)) x hp (h.below (by rw[hB];exact hx) _ hp) (by omega) (by omega) (by omega) (by rw[en];exact e5 i hi):
   Calls Tryz.prog 34 #[.agg (frA k v),.int .i64 (plc t:Int),.int .i64 ((Yic k m t a+2*(i%8):Nat):Int),.int .i64 ((Yir k m t b+2*(i / 8):Nat):Int)] x fun e w'=>e=.returned (.int .i64 (Ya5 k m f a b (64*t+i)))∧Below x.heap.size x w'))
 have HL:=Lib.hid (fun t (ht:t<6)=>(by
  obtain⟨e1,e2,e3,e4,-⟩:=Yk3 (b:=t) hm hu hv ht;have hc1:=Ylq hm ht;have hl1:=Yly hm ht;have hw1:=Yez k (plc t);exact⟨e1,e2,e3,e4,by omega,by omega⟩:16*(col k m t:Int)+Yd8 t a=(Yic k m t a:Int)∧16*(lin k m t:Int)+Yd8 t b=(Yir k m t b:Int)∧Yic k m t a≤9000∧Yir k m t b≤9000∧col k m t≤176∧lin k m t≤176))
 have HSX:=Ydf Yd0 k v;have HPP:=Lib.hid (fun g=>Ya8 g);have hz0:=Ycc;have HYS:(arn 384 fun _=>0).size=384:=Yaj _ _;have HS2:=Ydu a b;have HTW:=Lib.hid (fun(x:World) (hx:x.heap[B+1]? =some (.cells (Yeq a b) 26 (0,0)))=>Yhp hx);obtain⟨X,hX⟩:∃X,frA k v=X:=⟨_,rfl⟩
 replace hD0:wD.heap[B]? =some (frO 25 k v):=hD0
 have HXO:=Lib.hid (fun(x:World) (hx:x.heap[B]? =some (frO 25 k v))=>(by rw[←hX];exact hx:x.heap[B]? =some (.cells X 25 (0,0))));rw[hX] at CA hwA HSX ⊢;generalize (arn 384 fun _=>0)=Y at *;have HWA:=Lib.hid hwA;have HWB:=Lib.hid hwB;have HWC:=Lib.hid hwC;have HWD:=Lib.hid hwD;have HB:=Lib.hid hB;generalize hZ:Yeq a b=Z at *;have HZ:=Lib.hid hZ;clear hX hZ hwA hwB hwC hwD hB h hr hu hv hy
 go_enter Tryz.func24,Tryz.ntmps24
 go_wp2
 rw[HWA.out,HB.out,HWB.out,HWC.out,HWD.out]
 go_loopw [8] (fun z wr=>∃t:Nat,t≤6∧z=.int .i64 t∧wr.heap[B]? =some (frO 25 k v)∧wr.heap[B+1]? =some (.cells Z 26 (0,0))∧wr.heap[B+2]? =some (.cells Y 38 (0,0))∧wr.heap[B+3]? =some (ptO (Ya9 (Ya5 k m f a b) (64*t)))∧Below B w wr∧B+4≤wr.heap.size) (fun z _=>6-(RowKit.intOf z).toNat)
 case atStart=>exact⟨0,by omega,rfl,hD0,hD1,hD2,hD3,hbD,by omega⟩
 case round=>
  clear hD0 hD1 hD2 hD3 hbD hzA hzB hzC hzD;obtain⟨t,ht6,rfl,h0,h1,h2,h3,hb,hz⟩:=hrel;generalize wr=wo at *;by_cases hlt:t<6
  ·have t0:decide ((t:Int)<6)=true:=by simp;omega
   go_wp2
   go_loopw [9] (fun z wr=>∃i:Nat,i≤64∧z=.int .i64 i∧wr.heap[B]? =some (frO 25 k v)∧wr.heap[B+1]? =some (.cells Z 26 (0,0))∧wr.heap[B+2]? =some (.cells Y 38 (0,0))∧wr.heap[B+3]? =some (ptO (Ya9 (Ya5 k m f a b) (64*t+i)))∧Below B w wr∧B+4≤wr.heap.size) (fun z _=>64-(RowKit.intOf z).toNat)
   case atStart=>exact⟨0,by omega,rfl,h0,h1,h2,h3,hb,hz⟩
   case round=>
    clear h0 h1 h2 h3 hb hz;obtain⟨i,hi64,rfl,h0,h1,h2,h3,hb,hz⟩:=hrel;by_cases hli:i<64
    ·have t1:decide ((i:Int)<64)=true:=by simp;omega
     have cp:=fun x=>CP.out t i hlt hli x;obtain⟨e1,e2,e3,e4,e5,e6⟩:=HL.out t hlt;have C1:=Lib.hid (fun x (hx:Below wr.heap.size wr x)=>(CA.out t i hlt hli x (hb.trans (hx.mono (by omega)))).mono fun e y h=>(⟨h.1,hx.trans (h.2.mono hx.size)⟩:_∧Below wr.heap.size wr y));have HX1:=Lib.hid (fun x (hx:Below wr.heap.size wr x)=>HXO.out x ((hx.block B (by omega)).trans h0))
     have HM1:=Lib.hid (fun x (hx:Below wr.heap.size wr x)=>HTW.out x ((hx.block (B+1) (by omega)).trans h1));have ck:=Ycm h0;have T1:2*((8*col k m t+i%8:Nat):Int)+Yd8 t a=((Yic k m t a+2*(i%8):Nat):Int):=by omega
     have T2:2*((8*lin k m t+i / 8:Nat):Int)+Yd8 t b=((Yir k m t b+2*(i / 8):Nat):Int):=by omega
     have W1:IntKind.i64.wrap (2*((8*col k m t+i%8:Nat):Int))=2*((8*col k m t+i%8:Nat):Int):=Ycv (by omega);have W2:IntKind.i64.wrap (2*((8*lin k m t+i / 8:Nat):Int))=2*((8*lin k m t+i / 8:Nat):Int):=Ycv (by omega);have W3:IntKind.i64.wrap ((Yic k m t a+2*(i%8):Nat):Int)=((Yic k m t a+2*(i%8):Nat):Int):=Ya1 (by omega)
     have W4:IntKind.i64.wrap ((Yir k m t b+2*(i / 8):Nat):Int)=((Yir k m t b+2*(i / 8):Nat):Int):=Ya1 (by omega);generalize 8*col k m t+i%8=xx at *;generalize 8*lin k m t+i / 8=yy at *;generalize Yic k m t a+2*(i%8)=Lx at *;generalize Yir k m t b+2*(i / 8)=Ty at *;clear e1 e2 e3 e4 e5 e6;by_cases h4:t<4
     ·have hP:plc t=0:=by unfold plc;rw[if_pos h4]
      have hva:Yd8 t a=a:=by unfold Yd8;rw[if_pos h4]
      have hvb:Yd8 t b=b:=by unfold Yd8;rw[if_pos h4]
      rw[hP] at cp C1;rw[hva] at T1;rw[hvb] at T2;clear hP hva hvb
      go_wp2_with fail
      refine(cp _).mono ?_;rintro e x ⟨rfl,hx⟩
      go_wp2
      refine Yag (S:=fun x=>Below wr.heap.size wr x) 17 (by kernel_rfl) (by kernel_rfl) hx.drew ?_;simp only[List.take_succ_cons,List.take_zero,List.drop_succ_cons,List.drop_zero];refine Yab (v:=?vp0) (by kernel_rfl) ?m ?_;(case m=>(intro x _;go_simp;try with_reducible rfl));simp only[Yaa];refine Yab (v:=?vp1) (by kernel_rfl) ?m ?_;(case m=>(intro x _;go_simp;try with_reducible rfl))
      simp only[Yaa];refine Ybl 25 _ B 25 X (0,0) _ (by kernel_rfl) rfl rfl (fun x hx=>HX1.out x hx) Tryz.underlying25 rfl HSX ?_;simp only[Yaa];refine Yab (v:=?vp3) (by kernel_rfl) ?m ?_;(case m=>(intro x _;go_simp;try with_reducible rfl));simp only[Yaa];refine Yab (v:=?vp4) (by kernel_rfl) ?m ?_;(case m=>(intro x _;go_simp;try with_reducible rfl));simp only[Yaa]
      refine Yab (v:=?vp5) (by kernel_rfl) ?m ?_;(case m=>(intro x _;go_simp;try with_reducible rfl));simp only[Yaa];refine Yab (v:=?vp6) (by kernel_rfl) ?m ?_;(case m=>(intro x _;go_simp;try with_reducible rfl));simp only[Yaa];refine Yaf 3 _ ⟨B+1,0,none⟩ (.int .i64 a) (by kernel_rfl) rfl rfl (fun x hx=>by have c0:=(HM1.out x hx).1;go_simp) ?_;simp only[Yaa]
      refine Yab (v:=?vp8) (by kernel_rfl) ?m ?_;(case m=>(intro x _;go_simp;try with_reducible rfl));simp only[Yaa];refine Yab (v:=?vp9) (by kernel_rfl) ?m ?_;(case m=>(intro x _;go_simp;try with_reducible rfl));simp only[Yaa];refine Yab (v:=?vp10) (by kernel_rfl) ?m ?_;(case m=>(intro x _;go_simp;try with_reducible rfl));simp only[Yaa]
      refine Yab (v:=?vp11) (by kernel_rfl) ?m ?_;(case m=>(intro x _;go_simp;try with_reducible rfl));simp only[Yaa];refine Yaf 3 _ ⟨B+1,1,none⟩ (.int .i64 b) (by kernel_rfl) rfl rfl (fun x hx=>by have c0:=(HM1.out x hx).2;go_simp) ?_;simp only[Yaa];refine Yab (v:=?vp13) (by kernel_rfl) ?m ?_;(case m=>(intro x _;go_simp;try with_reducible rfl));simp only[Yaa]
      refine Yai (by kernel_rfl) C1.out (fun _=>by kernel_rfl) ?_;simp only[Yaa];refine Yab (v:=?vp15) (by kernel_rfl) ?m ?_;(case m=>(intro x _;go_simp;rw[if_pos (by omega)]));simp only[Yaa];refine Yab (v:=?vp16) (by kernel_rfl) ?m ?_;(case m=>(intro x _;go_simp;rw[if_pos (by omega)]));simp only[Yaa];refine Yar fun x hx=>?_;have g0:=(hx.block B (by omega)).trans h0
      have g1:=(hx.block (B+1) (by omega)).trans h1;have g2:=(hx.block (B+2) (by omega)).trans h2;have g3:=(hx.block (B+3) (by omega)).trans h3;have gb:=hb.trans (hx.mono (by omega));have gz:B+4≤x.heap.size:=by have:=hx.size;omega
      obtain⟨s,hs⟩:∃s,64*t+i=s:=⟨_,rfl⟩;have et:t*64+i=s:=by omega
      rw[hs] at g3;have ht4:s<384:=by omega
      have cc2:x.cell? ⟨B+1+1+1,t*64+i,none⟩=some (.int .i64 (Ya9 (Ya5 k m f a b) s s)):=by rw[et];exact Ya7 (i:=s) g3 ht4
      have ff2:x.frozen? ⟨B+1+1+1,t*64+i,none⟩=false:=by rw[et];exact Yc0 (i:=s) g3
      rw[hs]
      have PUT:=Lib.hid (⟨Yaq g0 (by simp;omega),Yaq g1 (by simp),Yaq g2 (by simp),by rw[et,show 64*t+(i+1)=s+1 by omega];exact Ypp g3,gb.setCell (by simp;omega) _,by simp[World.setCell];omega⟩:(x.setCell ⟨B+1+1+1,t*64+i,none⟩ (.int .i64 (Ya5 k m f a b s))).heap[B]? =some (frO 25 k v)∧(x.setCell ⟨B+1+1+1,t*64+i,none⟩ (.int .i64 (Ya5 k m f a b s))).heap[B+1]? =some (.cells Z 26 (0,0))∧(x.setCell ⟨B+1+1+1,t*64+i,none⟩ (.int .i64 (Ya5 k m f a b s))).heap[B+2]? =some (.cells Y 38 (0,0))∧(x.setCell ⟨B+1+1+1,t*64+i,none⟩ (.int .i64 (Ya5 k m f a b s))).heap[B+3]? =some (ptO (Ya9 (Ya5 k m f a b) (64*t+(i+1))))∧Below B w (x.setCell ⟨B+1+1+1,t*64+i,none⟩ (.int .i64 (Ya5 k m f a b s)))∧B+4≤(x.setCell ⟨B+1+1+1,t*64+i,none⟩ (.int .i64 (Ya5 k m f a b s))).heap.size)
      generalize Ya9 (Ya5 k m f a b) s s=y2 at cc2;generalize Ya5 k m f a b s=zv at *;clear hs et h0 h1 h2 h3 hb hz g0 g1 g2 g3 gb gz hx C1 HX1 HM1 ck T1 T2 W1 W2 W3 W4
      go_wp2
      go_roundw
      case rel=>exact⟨i+1,by omega,by go_num,PUT.out⟩
      case measure=>simp[RowKit.intOf];omega
     ·have hP:((plc t:Int)==0)=false:=by unfold plc;rw[if_neg h4];simp;omega
      have hva:Yd8 t a=Yfi a:=by unfold Yd8;rw[if_neg h4]
      have hvb:Yd8 t b=Yfi b:=by unfold Yd8;rw[if_neg h4]
      have C3:=Lib.hid (fun(x:World) (hx:Below wr.heap.size wr x)=>((Yi6 a x).mono fun e y h=>⟨h.1,h.2▸hx⟩:Calls Tryz.prog 35 #[.int .i64 a] x fun e y=>e=.returned (.int .i64 (Yfi a))∧Below wr.heap.size wr y))
      have C4:=Lib.hid (fun(x:World) (hx:Below wr.heap.size wr x)=>((Yi6 b x).mono fun e y h=>⟨h.1,h.2▸hx⟩:Calls Tryz.prog 35 #[.int .i64 b] x fun e y=>e=.returned (.int .i64 (Yfi b))∧Below wr.heap.size wr y));rw[hva] at T1;rw[hvb] at T2;generalize Yfi a=a' at *;generalize Yfi b=b' at *;generalize plc t=P at *;clear hva hvb
      go_wp2_with fail
      refine(cp _).mono ?_;rintro e x ⟨rfl,hx⟩
      go_wp2
      refine Yag (S:=fun x=>Below wr.heap.size wr x) 19 (by kernel_rfl) (by kernel_rfl) hx.drew ?_;simp only[List.take_succ_cons,List.take_zero,List.drop_succ_cons,List.drop_zero];refine Yab (v:=?vq0) (by kernel_rfl) ?m ?_;(case m=>(intro x _;go_simp;try with_reducible rfl));simp only[Yaa];refine Yab (v:=?vq1) (by kernel_rfl) ?m ?_;(case m=>(intro x _;go_simp;try with_reducible rfl))
      simp only[Yaa];refine Ybl 25 _ B 25 X (0,0) _ (by kernel_rfl) rfl rfl (fun x hx=>HX1.out x hx) Tryz.underlying25 rfl HSX ?_;simp only[Yaa];refine Yab (v:=?vq3) (by kernel_rfl) ?m ?_;(case m=>(intro x _;go_simp;try with_reducible rfl));simp only[Yaa];refine Yab (v:=?vq4) (by kernel_rfl) ?m ?_;(case m=>(intro x _;go_simp;try with_reducible rfl));simp only[Yaa]
      refine Yab (v:=?vq5) (by kernel_rfl) ?m ?_;(case m=>(intro x _;go_simp;try with_reducible rfl));simp only[Yaa];refine Yab (v:=?vq6) (by kernel_rfl) ?m ?_;(case m=>(intro x _;go_simp;try with_reducible rfl));simp only[Yaa];refine Yaf 3 _ ⟨B+1,0,none⟩ (.int .i64 a) (by kernel_rfl) rfl rfl (fun x hx=>by have c0:=(HM1.out x hx).1;go_simp) ?_;simp only[Yaa]
      refine Yai (by kernel_rfl) C3.out (fun _=>by kernel_rfl) ?_;simp only[Yaa];refine Yab (v:=?vq9) (by kernel_rfl) ?m ?_;(case m=>(intro x _;go_simp;try with_reducible rfl));simp only[Yaa];refine Yab (v:=?vq10) (by kernel_rfl) ?m ?_;(case m=>(intro x _;go_simp;try with_reducible rfl));simp only[Yaa];refine Yab (v:=?vq11) (by kernel_rfl) ?m ?_;(case m=>(intro x _;go_simp;try with_reducible rfl))
      simp only[Yaa];refine Yab (v:=?vq12) (by kernel_rfl) ?m ?_;(case m=>(intro x _;go_simp;try with_reducible rfl));simp only[Yaa];refine Yaf 3 _ ⟨B+1,1,none⟩ (.int .i64 b) (by kernel_rfl) rfl rfl (fun x hx=>by have c0:=(HM1.out x hx).2;go_simp) ?_;simp only[Yaa];refine Yai (by kernel_rfl) C4.out (fun _=>by kernel_rfl) ?_;simp only[Yaa]
      refine Yab (v:=?vq15) (by kernel_rfl) ?m ?_;(case m=>(intro x _;go_simp;try with_reducible rfl));simp only[Yaa];refine Yai (by kernel_rfl) C1.out (fun _=>by kernel_rfl) ?_;simp only[Yaa];refine Yab (v:=?vq17) (by kernel_rfl) ?m ?_;(case m=>(intro x _;go_simp;rw[if_pos (by omega)]));simp only[Yaa];refine Yab (v:=?vq18) (by kernel_rfl) ?m ?_;(case m=>(intro x _;go_simp;rw[if_pos (by omega)]))
      simp only[Yaa];refine Yar fun x hx=>?_;have g0:=(hx.block B (by omega)).trans h0;have g1:=(hx.block (B+1) (by omega)).trans h1;have g2:=(hx.block (B+2) (by omega)).trans h2;have g3:=(hx.block (B+3) (by omega)).trans h3;have gb:=hb.trans (hx.mono (by omega));have gz:B+4≤x.heap.size:=by have:=hx.size;omega
      obtain⟨s,hs⟩:∃s,64*t+i=s:=⟨_,rfl⟩;have et:t*64+i=s:=by omega
      rw[hs] at g3;have ht4:s<384:=by omega
      have cc2:x.cell? ⟨B+1+1+1,t*64+i,none⟩=some (.int .i64 (Ya9 (Ya5 k m f a b) s s)):=by rw[et];exact Ya7 (i:=s) g3 ht4
      have ff2:x.frozen? ⟨B+1+1+1,t*64+i,none⟩=false:=by rw[et];exact Yc0 (i:=s) g3
      rw[hs]
      have PUT:=Lib.hid (⟨Yaq g0 (by simp;omega),Yaq g1 (by simp),Yaq g2 (by simp),by rw[et,show 64*t+(i+1)=s+1 by omega];exact Ypp g3,gb.setCell (by simp;omega) _,by simp[World.setCell];omega⟩:(x.setCell ⟨B+1+1+1,t*64+i,none⟩ (.int .i64 (Ya5 k m f a b s))).heap[B]? =some (frO 25 k v)∧(x.setCell ⟨B+1+1+1,t*64+i,none⟩ (.int .i64 (Ya5 k m f a b s))).heap[B+1]? =some (.cells Z 26 (0,0))∧(x.setCell ⟨B+1+1+1,t*64+i,none⟩ (.int .i64 (Ya5 k m f a b s))).heap[B+2]? =some (.cells Y 38 (0,0))∧(x.setCell ⟨B+1+1+1,t*64+i,none⟩ (.int .i64 (Ya5 k m f a b s))).heap[B+3]? =some (ptO (Ya9 (Ya5 k m f a b) (64*t+(i+1))))∧Below B w (x.setCell ⟨B+1+1+1,t*64+i,none⟩ (.int .i64 (Ya5 k m f a b s)))∧B+4≤(x.setCell ⟨B+1+1+1,t*64+i,none⟩ (.int .i64 (Ya5 k m f a b s))).heap.size)
      generalize Ya9 (Ya5 k m f a b) s s=y2 at cc2;generalize Ya5 k m f a b s=zv at *;clear hs et h0 h1 h2 h3 hb hz g0 g1 g2 g3 gb gz hx C1 HX1 HM1 ck T1 T2 W1 W2 W3 W4
      go_wp2
      go_roundw
      case rel=>exact⟨i+1,by omega,by go_num,PUT.out⟩
      case measure=>simp[RowKit.intOf];omega
    ·obtain rfl:i=64:=by omega
     have t1:decide ((64:Int)<64)=false:=by simp
     have h3':wr.heap[B+3]? =some (ptO (Ya9 (Ya5 k m f a b) (64*(t+1)))):=h3;clear h3
     go_wp2
     go_roundw
     case rel=>exact⟨t+1,by omega,by go_num,h0,h1,h2,h3',hb,hz⟩
     case measure=>simp[RowKit.intOf];omega
  ·obtain rfl:t=6:=by omega
   have t0:decide ((6:Int)<6)=false:=by simp
   have HSV:=HPP.out (Ya9 (Ya5 k m f a b) (64*6));have HOV:=Yau 384 (Ya9 (Ya5 k m f a b) (64*6));have HVS:(arn 384 (Ya9 (Ya5 k m f a b) (64*6))).size=384:=Yaj _ _;have HVE:arn 384 (Ya9 (Ya5 k m f a b) (64*6))=arn 384 (Ya5 k m f a b):=Ybq (Ych 384 (Ya5 k m f a b));have h3':wo.heap[B+3]? =some (.cells (arn 384 (Ya9 (Ya5 k m f a b) (64*6))) 38 (0,0)):=h3;clear h3;rw[HVE] at HSV HOV HVS h3'
   obtain⟨V,hV⟩:∃V,arn 384 (Ya5 k m f a b)=V:=⟨_,rfl⟩;rw[hV] at HSV HOV HVS h3';have HVV:=Lib.hid hV;have HYV:Y.size=V.size:=by rw[HYS,HVS]
   clear HVE hV
   go_wp2_with (first|(with_reducible refine wpList_load_row rfl 38 _ rfl (B+3) rfl 38 V (0,0) _ h3' Tryz.underlying38 rfl HSV ?_)|(with_reducible refine Yad rfl 38 _ _ rfl (B+2) V Y rfl rfl 38 h2 HSV HYV HOV ?_;intro w2 hh2 hg2))
   refine bodyPost_ret (results_cell_row rfl _ _ (B+2) 38 _ (0,0) _ rfl hh2 Tryz.underlying38 rfl HSV) rfl ?_;exact⟨by rw[HVV.out],by rw[HB.out];exact hb.grown hg2 (by omega) (fun k hk=>by injection hk with hk;omega)⟩
end Go.Proofs.YtdnjefldijjgdaaGreatDoor