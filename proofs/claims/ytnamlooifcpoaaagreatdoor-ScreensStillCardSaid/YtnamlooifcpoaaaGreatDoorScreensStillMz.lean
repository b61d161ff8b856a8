/- No condition. -/
import Derived.Test.YtnamlooifcpoaaaGreatDoorScreensStillMa
import Derived.Test.YtnamlooifcpoaaaGreatDoorScreensStillMe
import Derived.Test.YtnamlooifcpoaaaGreatDoorScreensStillMh
import Derived.Test.YtnamlooifcpoaaaGreatDoorScreensStillMu
import Derived.Test.YtnamlooifcpoaaaGreatDoorScreensStillMx
import Derived.Test.YtnamlooifcpoaaaGreatDoorScreensStillMy
namespace Go.Proofs.YtnamlooifcpoaaaGreatDoor
open Go.RowKit Go.Lib Go.ChangeShapes Go.WideShapes Go.ChangeAt
section
variable {H:Type}{enc:TypeId×Value→H}{P:Program}
theorem Yf7 {w:World}{base fuel:Nat}{sp:Nat→Bool}{held:Bool}{t e:TypeId}{v:Value}{x:DataW H×List MemPlace}
  (ht:P.underlying t=some (.slice e))(he:P.underlying e=some (.int .u8))(ce:P.cellsOf e=1)
  (hf:DataW.trod enc P w base sp held fuel t [v]=some x):∃n f,Yiq w v n f∧n≤maxLen:=by
 rcases Go.Deep.open_slice1 ht ce hf with ⟨h1,_⟩|⟨a,len,cap,m,n,V,D,Pl,h1,hb,hl,hm,hmm,_,hx⟩
 ·injection h1 with h1;subst h1;exact⟨0,fun _=>0,Yiq.nil w _,Nat.zero_le _⟩
 ·injection h1 with h1;subst h1;have hlm:len≤m:=by rw[hmm];split <;> omega
  have each:∀i,i<len→∃y:Int,w.cell? (a.add i)=some (.int .u8 y)∧0≤y∧y≤255:=by
   intro i hi;obtain⟨h1,h2⟩:=hx i (by omega);obtain⟨y,e0,_,w0⟩:=DataW.trod_int he h2;injection e0 with e0;have h':(decide (IntKind.u8.min≤y)&&decide (y≤IntKind.u8.max))=true:=w0;rw[Bool.and_eq_true,decide_eq_true_iff,decide_eq_true_iff] at h';have e1:IntKind.u8.min=0:=rfl;have e2:IntKind.u8.max=255:=rfl;exact⟨y,by rw[h1,e0],by omega,by omega⟩
  refine⟨len,fun i=>match w.cell? (a.add i) with|some (.int _ y)=>y|_=>0,⟨some a,cap,rfl,hl,?_⟩,by omega⟩;by_cases h0:len=0
  ·exact .inl h0
  ·right
   obtain⟨y0,hy0,_⟩:=each 0 (by omega);have ea:a=⟨a.block,a.off,none⟩:=by
    have:a.add 0=a:=by cases a with|mk b o s=>cases s <;> simp[Addr.add]
    rw[this] at hy0;exact Yuz hy0
   refine⟨a.block,a.off,by rw[←ea],fun i hi=>?_⟩;obtain⟨y,hy,h1,h2⟩:=each i hi;have eadd:a.add i=⟨a.block,a.off+i,none⟩:=by rw[ea];simp[Addr.add]
   simp only[hy];exact⟨by rw[←eadd];exact hy,h1,h2⟩
theorem Yqa {w:World}{r:Reach}{b0 base:Nat}{sp:Nat→Bool}{held:Bool}{t ti ta ts te:TypeId}{f0 f1:Field}{v:Value}{d:DataW H}{ps:List MemPlace}
  (ht:P.underlying t=some (.struct #[f0,f1]))(hi:P.underlying ti=some (.int .i64))(ha:P.underlying ta=some (.array 3 ts))(hs:P.underlying ts=some (.slice te))(he:P.underlying te=some (.int .u8))
  (e0:f0.type=ti)(e1:f1.type=ta)(o0:f0.offset=0)(o1:f1.offset=1)(ci:P.cellsOf ti=1)(ca:P.cellsOf ta=3)(cs:P.cellsOf ts=1)(hc:P.cellsOf t=4)(ce:P.cellsOf te=1)
  (hval:Value.okWide P w r b0 t v)(hd:DataW.Trod enc P w base sp held t v d ps):
  ∃(k:Int) (vs:Nat→Value) (n:Nat→Nat) (f:Nat→Nat→Int),v=.agg (frA k vs)∧(Lit.int .i64 k).wf=true∧Ygh w vs n f∧∀p,p<3→n p≤maxLen:=by
 obtain⟨Ybc,rfl,hsz,_⟩:∃cs,v=.agg cs∧cs.size=P.cellsOf t∧Row.okWide P w r b0 t cs:=by
  simpa [Value.okWide,ht] using hval
 rw[hc] at hsz;obtain⟨fuel,hf⟩:=hd;obtain⟨xs,k,hk,hxy,_,hxl,hfs⟩:=DataW.trod_struct ht hf;obtain⟨l⟩:=Ybc
 match l,hsz,xs,hxl with
 |[c0,c1,c2,c3],_,[y0,y1],_=>
  have g0:=hfs 0 f0 rfl;have g1:=hfs 1 f1 rfl;rw[e0,o0,ci] at g0;rw[e1,o1,ca] at g1;obtain⟨x0,q0,_,w0⟩:=DataW.trod_int hi (show DataW.trod _ P w base sp held k ti [c0]=some y0 from g0);obtain⟨zs,m,_,_,_,hl,hel⟩:=DataW.trod_array ha (show DataW.trod _ P w base sp held k ta [c1,c2,c3]=some y1 from g1);rw[cs] at hel
  match zs,hl with
  |[z0,z1,z2],_=>
   obtain⟨n0,r0,b0,l0⟩:=Yf7 hs he ce (show DataW.trod _ P w base sp held m ts [c1]=some z0 from hel 0 (by omega));obtain⟨n1,r1,b1,l1⟩:=Yf7 hs he ce (show DataW.trod _ P w base sp held m ts [c2]=some z1 from hel 1 (by omega));obtain⟨n2,r2,b2,l2⟩:=Yf7 hs he ce (show DataW.trod _ P w base sp held m ts [c3]=some z2 from hel 2 (by omega));injection q0 with q0;subst q0
   refine⟨x0,fun p=>if p=0 then c1 else if p=1 then c2 else c3,fun p=>if p=0 then n0 else if p=1 then n1 else n2,fun p=>if p=0 then r0 else if p=1 then r1 else r2,rfl,w0,fun p hp=>?_,fun p hp=>?_⟩
   ·match p,hp with
    |0,_=>exact b0
    |1,_=>exact b1
    |2,_=>exact b2
   ·match p,hp with
    |0,_=>exact l0
    |1,_=>exact l1
    |2,_=>exact l2
end
theorem Ygh.slices {w:World}{v:Nat→Value}{n:Nat→Nat}{f:Nat→Nat→Int}(h:Ygh w v n f):∀p,p<3→∃a c,v p=.slice a (n p) c:=fun p hp=>by
 obtain⟨a,c,e,_⟩:=h p hp;exact⟨a,c,e⟩
def Ys5 (n:Nat→Nat):Bool:=decide ((n 0:Int)≤30000)&&(decide ((n 1:Int)≤30000)&&decide ((n 2:Int)≤30000))
set_option maxRecDepth 100000 in
theorem Yp8 (k:Int)(v:Nat→Value)(n:Nat→Nat)(w:World)(hv:∀p,p<3→∃a c,v p=.slice a (n p) c):Calls Tryz.prog 5 #[.agg (frA k v)] w fun e w'=>e=.returned (.bool (Ys5 n))∧Below w.heap.size w w':=by
 have hb1:∀o,Below w.heap.size w (w.alloc o):=fun o=>(Below.refl _ w).alloc (Nat.le_refl _) _;have hR:=Lib.hid (show Ys5 n=(decide ((n 0:Int)≤30000)&&(decide ((n 1:Int)≤30000)&&decide ((n 2:Int)≤30000))) from rfl);obtain⟨a0,b0,hv0⟩:=hv 0 (by omega);obtain⟨a1,b1,hv1⟩:=hv 1 (by omega);obtain⟨a2,b2,hv2⟩:=hv 2 (by omega);unfold frA frL;rw[hv0,hv1,hv2];clear hv hv0 hv1 hv2;generalize n 0=n0 at *
 generalize n 1=n1 at *;generalize n 2=n2 at *;cases t0:decide ((n0:Int)≤30000)
 ·go_enter Tryz.func5,Tryz.ntmps5
  go_wp2
  go_ret
  exact⟨Yae (by rw[hR.out,t0];rfl),hb1 _⟩
 cases t1:decide ((n1:Int)≤30000)
 ·go_enter Tryz.func5,Tryz.ntmps5
  go_wp2
  go_ret
  exact⟨Yae (by rw[hR.out,t0,t1];rfl),hb1 _⟩
 cases t2:decide ((n2:Int)≤30000)
 all_goals
  go_enter Tryz.func5,Tryz.ntmps5
  go_wp2
  go_ret
  exact⟨Yae (by rw[hR.out,t0,t1,t2];rfl),hb1 _⟩
end Go.Proofs.YtnamlooifcpoaaaGreatDoor
namespace Go.Proofs.YtnamlooifcpoaaaGreatDoor
open Go.RowKit Go.Lib
theorem Ytw (g:Nat→Int)(t:Nat):Ycw (Ybn g t) t (g t)=Ybn g (t+1):=rfl
theorem Y0g {w:World}{B t:Nat}{g:Nat→Int}(h:w.heap[B]? =some (ptO (Ybn g t))):(w.setCell ⟨B,t,none⟩ (.int .i64 (g t))).heap[B]? =some (ptO (Ybn g (t+1))):=by
 have:=Yg7 (w:=w) (B:=B) (i:=t) (n:=384) (T:=62) (f:=Ybn g t) (g t) h;rw[Ytw] at this;exact this
def Ygw (b:Nat)(v:Int):Int:=if b<4 then v else Ykz v
def Yp7 (k:Int)(m b:Nat)(v:Int):Nat:=(16*(col k m b:Int)+Ygw b v).toNat
def Yrc (k:Int)(m b:Nat)(v:Int):Nat:=(16*(lin k m b:Int)+Ygw b v).toNat
def Yc5 (k:Int)(m:Nat)(f:Nat→Nat→Int)(u v:Int):Nat→Int:=fun s=>Ynd (f (plc (s / 64))) (wid k (plc (s / 64))) (Yp7 k m (s / 64) u) (Yrc k m (s / 64) v) (s%64)
theorem Yps {c m:Nat}{v:Int}(h:Ycl c m v=true):0≤16*(c:Int)+Ykz v∧16*(c:Int)+Ykz v+14≤16*(m:Int)-2:=by
 obtain⟨⟨h1,h2⟩,h3,h4⟩:=Yc6.1 h;rw[Yyj (by omega) (by omega)];unfold Yne
 split <;> split <;> omega
theorem Yyt {W H x y:Nat}(hW:0<W)(hH:0<H)(hx:x≤2*W-2)(hy:y≤2*H-2):y / 2*W+x / 2+y%2*W+x%2<W*H:=by
 have h:(y / 2+y%2+1)*W≤H*W:=Nat.mul_le_mul_right _ (by omega);rw[Nat.add_mul,Nat.add_mul,Nat.one_mul,Nat.mul_comm H] at h;omega
theorem Yol {c m b r:Nat}{v:Int}(h:Ycl c m v=true)(hr:r≤1)(hb:b<6):
  0≤16*((if b<4 then 2*c+r else c:Nat):Int)+Ygw b v∧16*((if b<4 then 2*c+r else c:Nat):Int)+Ygw b v+14≤2*((if plc b=0 then 16*m else 8*m:Nat):Int)-2:=by
 have h1:=Yc6.1 h;have h2:=Yps h;unfold Ygw plc;by_cases h4:b<4
 ·simp only[if_pos h4,if_true];omega
 ·simp only[if_neg h4,if_neg (show ¬ b-3=0 by omega)];omega
theorem Ytt {k:Int}{m b:Nat}{u v:Int}(hm:m<Ybc k)(hu:Ycl (m%acr k) (acr k) u=true)(hv:Ycl (m / acr k) (dow k) v=true)(hb:b<6):
  16*(col k m b:Int)+Ygw b u=(Yp7 k m b u:Int)∧16*(lin k m b:Int)+Ygw b v=(Yrc k m b v:Int)∧Yp7 k m b u≤9000∧Yrc k m b v≤9000∧InT (siz k (plc b)) (wid k (plc b)) (Yp7 k m b u) (Yrc k m b v):=by
 obtain⟨h0,h1,h2⟩:=Ycm hm;obtain⟨-,-,-,-,m1,m2⟩:=Yc8 k;have c1:0≤16*(col k m b:Int)+Ygw b u∧16*(col k m b:Int)+Ygw b u+14≤2*(wid k (plc b):Int)-2:=Yol (r:=b%2) hu (by omega) hb;have c2:0≤16*(lin k m b:Int)+Ygw b v∧16*(lin k m b:Int)+Ygw b v+14≤2*(hei k (plc b):Int)-2:=by
  have:=Yol (r:=b / 2) (b:=b) hv;by_cases h4:b<4
  ·exact Yol (r:=b / 2) hv (by omega) hb
  ·have h:=Yol (r:=0) (b:=b) hv (by omega) hb;unfold lin hei;simp only[if_neg h4] at h ⊢;exact h
 obtain⟨w1,w2⟩:=Yfz k (plc b);have e1:16*(col k m b:Int)+Ygw b u=(Yp7 k m b u:Int):=by unfold Yp7;omega
 have e2:16*(lin k m b:Int)+Ygw b v=(Yrc k m b v:Int):=by unfold Yrc;omega
 rw[e1] at c1;rw[e2] at c2;refine⟨e1,e2,by omega,by omega,fun i hi=>?_⟩;have hh:siz k (plc b)=wid k (plc b)*hei k (plc b):=rfl;rw[hh];have q1:i%8≤7:=by omega
 have q2:i / 8≤7:=by omega
 exact Yyt (by omega) (by omega) (by omega) (by omega)
theorem Yjb (k:Int)(m:Nat)(f:Nat→Nat→Int)(u v:Int)(b:Nat):∀i,i<64→Ynd (f (plc b)) (wid k (plc b)) (Yp7 k m b u) (Yrc k m b v) i=Yc5 k m f u v (64*b+i):=fun i hi=>by
 unfold Yc5;rw[show (64*b+i) / 64=b by omega,show (64*b+i)%64=i by omega]
end Go.Proofs.YtnamlooifcpoaaaGreatDoor
namespace Go.Proofs.YtnamlooifcpoaaaGreatDoor
theorem Yu5 (b:Nat):Ygw b 0=0:=by unfold Ygw;rw[Ysd];split <;> rfl
theorem Ymr (k:Int)(m:Nat)(f:Nat→Nat→Int):∀s,Yc5 k m f 0 0 s=Yu7 k m f s:=by
 intro s;unfold Yc5 Yu7 Ynd Ynk Yp7 Yrc;rw[Yu5];have e1:((16*(col k m (s / 64):Int)+0).toNat+2*(s%64%8))=2*(8*col k m (s / 64)+s%64%8):=by omega
 have e2:((16*(lin k m (s / 64):Int)+0).toNat+2*(s%64 / 8))=2*(8*lin k m (s / 64)+s%64 / 8):=by omega
 rw[e1,e2,Nat.mul_div_cancel_left _ (by omega),Nat.mul_div_cancel_left _ (by omega),Nat.mul_mod_right,Nat.mul_mod_right,Nat.zero_mul,Nat.add_zero,Ykl];generalize f (plc (s / 64)) (pos k m (s / 64) (s%64))=z;omega
theorem Ykg {k:Int}{m:Nat}(h:m<Ybc k):Yi6 k m 0 0=true:=by
 obtain⟨h0,h1,h2⟩:=Ycm h;refine Yg1.2 ⟨⟨by omega,by simpa using h⟩,?_,?_⟩
 ·rw[Int.toNat_natCast];exact Yc6.2 ⟨by omega,by omega,by omega⟩
 ·rw[Int.toNat_natCast];generalize m / acr k=y at *;exact Yc6.2 ⟨by omega,by omega,by omega⟩
theorem Yl9 {k:Int}{m:Nat}{f:Nat→Nat→Int}{a b lo hi:Int}{t i:Nat}(hm:m<Ybc k)(hy:Yi6 k m a b=true)(ht:t<6)(hi64:i<64)
  (hl:∀j,j<siz k (plc t)→lo≤f (plc t) j∧f (plc t) j≤hi):lo≤Yc5 k m f a b (64*t+i)∧Yc5 k m f a b (64*t+i)≤hi:=by
 obtain⟨-,hu,hv⟩:=Yg1.1 hy;rw[Int.toNat_natCast] at hu hv;obtain⟨-,-,-,-,e5⟩:=Ytt (b:=t) hm hu hv ht;have e6:=e5 i hi64;have hq:=Yjb k m f a b t i hi64;unfold Ynd Ynk at hq;rw[←hq];generalize Yp7 k m t a+2*(i%8)=x at *;generalize Yrc k m t b+2*(i / 8)=y at *;have q0:=hl (y / 2*wid k (plc t)+x / 2) (by omega);have q1:=hl (y / 2*wid k (plc t)+x / 2+x%2) (by omega)
 have q2:=hl (y / 2*wid k (plc t)+x / 2+y%2*wid k (plc t)) (by omega);have q3:=hl (y / 2*wid k (plc t)+x / 2+y%2*wid k (plc t)+x%2) (by omega);omega
end Go.Proofs.YtnamlooifcpoaaaGreatDoor
namespace Go.Proofs.YtnamlooifcpoaaaGreatDoor
open Go.RowKit Go.Lib
set_option maxRecDepth 1000000 in
set_option maxHeartbeats 8000000 in
theorem Yts (k:Int)(v:Nat→Value)(n:Nat→Nat)(f:Nat→Nat→Int)(m:Nat)(a b:Int)(w:World)(h:Ygh w v n f)(hr:Ybk k n=true)(hm:m<Ybc k)(hy:Yi6 k m a b=true):
  Calls Tryz.prog 79 #[.agg (frA k v),.int .i64 (m:Int),.agg (Yh4 a b)] w fun e w'=>e=.returned (.tuple #[.agg (arn 384 (Yc5 k m f a b)),.int .i64 0])∧Below w.heap.size w w':=by
 obtain⟨B,wA,wB,wC,wD,hB,hwA,hwB,hwC,hwD,hzA,hzB,hzC,hzD,hD0,hD1,hD2,hD3,hbD⟩:=Yyy w (.cells (frA k v) 25 (0,0)) (.cells (Yh4 a b) 43 (0,0)) (.cells (arn 384 fun _=>0) 62 (0,0)) (.cells (arn 384 fun _=>0) 62 (0,0));obtain⟨-,hu,hv⟩:=Yg1.1 hy;rw[Int.toNat_natCast] at hu hv;have hu2:=Yc6.1 hu;have hv2:=Yc6.1 hv
 replace hD3:wD.heap[B+3]? =some (ptO (Ybn (Yc5 k m f a b) 0)):=hD3
 have cR:=Yct k v n wD h.slices;rw[hr] at cR;have cH:∀w,Calls Tryz.prog 104 #[.int .i64 k,.int .i64 (m:Int)] w fun e w'=>e=.returned (.bool true)∧w=w':=fun w=>(Yhi k m w).mono fun e y h=>⟨h.1.trans (by rw[Yd3.2 ⟨by omega,by simpa using hm⟩]),h.2⟩;have cM:=fun w=>Ykf k m a b w;rw[hy] at cM;have cC:=fun w=>Ycn k w;obtain⟨e1,e2,-⟩:=Yc8 k;rw[←e1,←e2] at cC;clear e1 e2
 have HF:=Lib.hid (fun(x:World) (hx:Below B w x)=>h.below (by rw[hB];exact hx));have HV:=Lib.hid (Ydv.1 hr).2;have HO:=Lib.hid (fun p (hp:p<3) x=>Ytl k v p x hp (fun p hp=>by obtain⟨a,c,h⟩:=h.slices p hp;exact⟨a,n p,c,h⟩));obtain⟨r1,r2,r3,z0,m1,m2,m3,m4⟩:=Yon hm;have HT:=Lib.hid (fun t (ht:t<6) (x:World) (hx:Below B w x) c (lo:Nat) (hc:Ydi x lo c (v (plc t)) (wid k (plc t)))=>(by
  obtain⟨e1,e2,e3,e4,e5⟩:=Ytt (b:=t) hm hu hv ht;have hp:=Yfv ht;have en:=(Ydv.1 hr).2 _ hp;have hs:=Yeu k (plc t);obtain⟨h1,h2,-⟩:=Ycm hm;have hc1:=Yj9 hm ht;have hl1:=Ykd hm ht;have hw1:=Yfz k (plc t)
  exact Yq8 c (v (plc t)) (wid k (plc t)) (n (plc t)) (col k m t) (lin k m t) (Yp7 k m t a) (Yrc k m t b) (f (plc t)) (Ygw t a) (Ygw t b) x lo hc (h.below (by rw[hB];exact hx) _ hp) (by omega) (by omega) (by omega) e1 e2 e3 e4 (by rw[en];exact e5):
   Calls Tryz.prog 106 #[c,.int .i64 (col k m t:Int),.int .i64 (lin k m t:Int),.agg (Yh4 (Ygw t a) (Ygw t b))] x fun e w'=>e=.returned (.agg (Ya7 (Ynd (f (plc t)) (wid k (plc t)) (Yp7 k m t a) (Yrc k m t b))))∧Below x.heap.size x w'))
 have HPB:=Lib.hid (fun t=>Yjb k m f a b t);have hzp:=Yek;have HSX:=Ya0 Ybf k v;have HS2:=Yem a b;have HPS:=fun g=>Yb6 g;have HYS:(arn 384 fun _=>0).size=384:=Yar _ _;obtain⟨X,hX⟩:∃X,frA k v=X:=⟨_,rfl⟩;have hD0':wD.heap[B]? =some (.cells X 25 (0,0)):=by rw[←hX];exact hD0
 replace hD0:wD.heap[B]? =some (frO 25 k v):=hD0
 have ck:=Ybj hD0;rw[hX] at cR hwA HSX ⊢;rw[hX] at HO;obtain⟨Y,hY⟩:∃Y,(arn 384 fun _=>0)=Y:=⟨_,rfl⟩;rw[hY] at hwC hwD hzp HYS hD2;obtain⟨Z,hZ⟩:∃Z,Yh4 a b=Z:=⟨_,rfl⟩;rw[hZ] at hwB HS2 hD1 cM ⊢;have HX:=Lib.hid hX;have HY:=Lib.hid hY;have HZ:=Lib.hid hZ;have HWA:=Lib.hid hwA;have HWB:=Lib.hid hwB;have HWC:=Lib.hid hwC;have HWD:=Lib.hid hwD;have HB:=Lib.hid hB
 clear hX hY hZ hwA hwB hwC hwD hB h hr hu hv hy
 go_enter Tryz.func79,Tryz.ntmps79
 go_wp2_with (rw[HWA.out,HB.out,HWB.out,HWC.out,HWD.out];with_reducible refine wpList_load_row rfl 25 _ rfl B rfl 25 X (0,0) _ hD0' Tryz.underlying25 rfl HSX ?_)
 refine cR.mono ?_;rintro e w1 ⟨rfl,hb1⟩;have h0:=(hb1.block B (by omega)).trans hD0;have h1:=(hb1.block (B+1) (by omega)).trans hD1;have h2:=(hb1.block (B+2) (by omega)).trans hD2;have h3:=(hb1.block (B+3) (by omega)).trans hD3;have hbw:=hbD.trans (hb1.mono (by omega));have hz1:B+4≤w1.heap.size:=by have:=hb1.size;omega
 replace ck:=Ybj h0
 clear hb1 hbD hD0 hD0' hD1 hD2 hD3 hzA hzB hzC hzD cR
 go_wp2_with (first|(with_reducible refine(cH _).mono ?_;rintro e x ⟨rfl,rfl⟩)|(with_reducible refine(cC _).mono ?_;rintro e x ⟨rfl,rfl⟩)|(with_reducible refine wpList_load_row rfl 43 _ rfl (B+1) rfl 43 Z (0,0) _ h1 Tryz.underlying43 rfl HS2 ?_))
 refine(cM _).mono ?_;rintro e w2 ⟨rfl,hb1⟩
 replace h0:=(hb1.block B (by omega)).trans h0
 replace h1:=(hb1.block (B+1) (by omega)).trans h1
 replace h2:=(hb1.block (B+2) (by omega)).trans h2
 replace h3:=(hb1.block (B+3) (by omega)).trans h3
 replace hbw:=hbw.trans (hb1.mono (by omega))
 replace hz1:B+4≤w2.heap.size:=by have:=hb1.size;omega
 replace ck:=Ybj h0
 have h0':w2.heap[B]? =some (.cells X 25 (0,0)):=by rw[←HX.out];exact h0
 clear hb1 cM;obtain⟨u,hu⟩:∃u,m%acr k=u:=⟨_,rfl⟩;obtain⟨q,hq⟩:∃q,m / acr k=q:=⟨_,rfl⟩;have hC4:=Lib.hid (fun t (ht:t<4)=>(by unfold col lin plc Ygw;simp only[if_pos ht,hu,hq];exact⟨trivial,trivial,trivial,trivial,trivial⟩:col k m t=2*u+t%2∧lin k m t=2*q+t / 2∧plc t=0∧Ygw t a=a∧Ygw t b=b))
 have hC5:=Lib.hid (fun p (hp:p=1∨p=2)=>(by unfold col lin plc Ygw;rcases hp with rfl|rfl <;> simp[hu,hq]:col k m (3+p)=u∧lin k m (3+p)=q∧plc (3+p)=p∧Ygw (3+p) a=Ykz a∧Ygw (3+p) b=Ykz b));rw[hu] at r1 m1 hu2;rw[hq] at r2 r3 m2 hv2;generalize acr k=A at *;generalize dow k=D at *;clear hu hq;have HM:=Lib.hid hm;have HZP:=Lib.hid hzp;clear hm hzp
 go_wp2_with (first|(with_reducible refine(cH _).mono ?_;rintro e x ⟨rfl,rfl⟩)|(with_reducible refine(cC _).mono ?_;rintro e x ⟨rfl,rfl⟩)|(with_reducible refine wpList_load_row rfl 25 _ rfl B rfl 25 X (0,0) _ h0' Tryz.underlying25 rfl HSX ?_))
 refine Yan (S:=fun x=>Below w2.heap.size w2 x) 8 (by kernel_rfl) (by kernel_rfl) (Below.refl _ _).drew ?_;simp only[List.take_succ_cons,List.take_zero,List.drop_succ_cons,List.drop_zero];refine Yab (v:=?v0) (by kernel_rfl) ?m ?_;(case m=>(intro x _;go_simp;try with_reducible rfl));simp only[Yaa];refine Yab (v:=?v1) (by kernel_rfl) ?m ?_;(case m=>(intro x _;go_simp;try with_reducible rfl))
 simp only[Yaa];refine Yab (v:=?v2) (by kernel_rfl) ?m ?_;(case m=>(intro x _;go_simp;rw[if_neg (by omega)]));simp only[Yaa];refine Yab (v:=?v3) (by kernel_rfl) ?m ?_;(case m=>(intro x _;go_simp;try with_reducible rfl));simp only[Yaa];refine Yab (v:=?v4) (by kernel_rfl) ?m ?_;(case m=>(intro x _;go_simp;try with_reducible rfl));simp only[Yaa]
 refine Yab (v:=?v5) (by kernel_rfl) ?m ?_;(case m=>(intro x _;go_simp;rw[if_neg (by omega)]));simp only[Yaa];refine Yab (v:=?v6) (by kernel_rfl) ?m ?_;(case m=>(intro x _;go_simp;try with_reducible rfl));simp only[Yaa];refine Yab (v:=?v7) (by kernel_rfl) ?m ?_;(case m=>(intro x _;go_simp;try with_reducible rfl));simp only[Yaa];refine Ybi fun x hx=>?_
 replace h0:=(hx.block B (by omega)).trans h0
 replace h1:=(hx.block (B+1) (by omega)).trans h1
 replace h2:=(hx.block (B+2) (by omega)).trans h2
 replace h3:=(hx.block (B+3) (by omega)).trans h3
 replace hbw:=hbw.trans (hx.mono (by omega))
 replace hz1:B+4≤x.heap.size:=by have:=hx.size;omega
 have ho:=HO.out 0 (by omega) x;have hzc:=hz1
 replace h0':x.heap[B]? =some (.cells X 25 (0,0)):=by rw[←HX.out];exact h0
 clear hx ck
 go_wp2_with (with_reducible refine wpList_load_row rfl 25 _ rfl B rfl 25 X (0,0) _ h0' Tryz.underlying25 rfl HSX ?_)
 refine ho.mono ?_;rintro e w3 ⟨c,rfl,hc,hb1⟩
 replace h0:=(hb1.block B (by omega)).trans h0
 replace h1:=(hb1.block (B+1) (by omega)).trans h1
 replace h2:=(hb1.block (B+2) (by omega)).trans h2
 replace h3:=(hb1.block (B+3) (by omega)).trans h3
 replace hbw:=hbw.trans (hb1.mono (by omega))
 replace hz1:B+4≤w3.heap.size:=by have:=hb1.size;omega
 replace hc:=hc.mono hzc
 clear hb1 ho h0' hzc
 go_wp2
 go_loopw [48] (fun z wr=>∃t:Nat,t≤4∧z=.int .i64 t∧wr.heap[B]? =some (frO 25 k v)∧wr.heap[B+1]? =some (.cells Z 43 (0,0))∧wr.heap[B+2]? =some (.cells Y 62 (0,0))∧wr.heap[B+3]? =some (ptO (Ybn (Yc5 k m f a b) (64*t)))∧Below B w wr∧B+4≤wr.heap.size∧Ydi wr (B+4) c (v 0) (wid k 0)) (fun z _=>4-(RowKit.intOf z).toNat)
 case atStart=>exact⟨0,by omega,rfl,h0,h1,h2,h3,hbw,hz1,hc⟩
 case round=>
  clear h0 h1 h2 h3 hbw hz1 hc;obtain⟨t,ht4,rfl,h0,h1,h2,h3,hb,hz,hc⟩:=hrel;by_cases hlt:t<4
  ·have t0:decide ((t:Int)<4)=true:=by simp;omega
   obtain⟨i1,i2,i3,i4,i5⟩:=hC4.out t hlt;have ct:=HT.out t (by omega) wr hb c (B+4) (by rw[i3];exact hc);have hG:=HPB.out t;rw[i1,i2,i3,i4,i5,HZ.out] at ct;rw[i3] at hG;generalize Ynd (f 0) (wid k 0) (Yp7 k m t a) (Yrc k m t b)=G at ct hG;have HSV:=Yau G;obtain⟨V,hV⟩:∃V,Ya7 G=V:=⟨_,rfl⟩;rw[hV] at ct HSV;have HV2:=Lib.hid hV;have HG:=Lib.hid hG
   have e1:(t:Int).tmod 2=((t%2:Nat):Int):=by rw[Int.tmod_eq_emod_of_nonneg (by omega)];rfl
   have e2:(t:Int).tdiv 2=((t / 2:Nat):Int):=by rw[Int.tdiv_eq_ediv_of_nonneg (by omega)];rfl
   have e3:IntKind.i64.wrap ((t / 2:Nat):Int)=((t / 2:Nat):Int):=Ybl (by omega);have b1:t%2<2:=by omega
   have b2:t / 2<2:=by omega
   have S1:2*(u:Int)+((t%2:Nat):Int)=((2*u+t%2:Nat):Int):=by omega
   have S2:2*(q:Int)+((t / 2:Nat):Int)=((2*q+t / 2:Nat):Int):=by omega
   have S3:IntKind.i64.wrap ((2*u+t%2:Nat):Int)=((2*u+t%2:Nat):Int):=Ybl (by omega);have S4:IntKind.i64.wrap ((2*q+t / 2:Nat):Int)=((2*q+t / 2:Nat):Int):=Ybl (by omega);generalize 2*u+t%2=xx at *;generalize 2*q+t / 2=yy at *;generalize t%2=tm at *;generalize t / 2=tq at *;clear hV hG i1 i2 i3 i4 i5
   go_wp2_with (with_reducible refine wpList_load_row rfl 43 _ rfl (B+1) rfl 43 Z (0,0) _ h1 Tryz.underlying43 rfl HS2 ?_)
   refine ct.mono ?_;rintro e x1 ⟨rfl,hb1⟩;have k0:=(hb1.block B (by omega)).trans h0;have k1:=(hb1.block (B+1) (by omega)).trans h1;have k2:=(hb1.block (B+2) (by omega)).trans h2;have k3:=(hb1.block (B+3) (by omega)).trans h3;have kb:=hb.trans (hb1.mono (by omega));have kz:B+4≤x1.heap.size:=by have:=hb1.size;omega
   have kc:=hc.below hb1;have k3':x1.heap[B+1+1+1]? =some (Ydn 62 384 (Ybn (Yc5 k m f a b) (64*t))):=k3;clear h0 h1 h2 h3 hb hz hc hb1 ct S1 S2 S3 S4 k3
   go_wp2_with (refine Yio rfl 60 _ _ rfl (B+1+1+1) t _ (by omega) 62 (Yc5 k m f a b) G V HV2.out rfl rfl k3' (by omega) HG.out HSV ?_;intro w2 hh2 hg2)
   have hb2:Below B w w2:=kb.grown hg2 (by omega) (fun k hk=>by injection hk with hk;omega);have j0:=(hg2.block B (by omega) (by intro e;injection e with e;omega)).trans k0;have j1:=(hg2.block (B+1) (by omega) (by intro e;injection e with e;omega)).trans k1;have j2:=(hg2.block (B+2) (by omega) (by intro e;injection e with e;omega)).trans k2;have jz:B+4≤w2.heap.size:=Nat.le_trans kz hg2.size
   have jc:=kc.grown hg2 (by omega)
   go_roundw
   case rel=>exact⟨t+1,by omega,by go_num,j0,j1,j2,hh2.out,hb2,jz,jc⟩
   case measure=>simp[RowKit.intOf];omega
  ·obtain rfl:t=4:=by omega
   have t0:decide ((4:Int)<4)=false:=by simp
   have h1':wr.heap[B+1]? =some (.cells (Yh4 a b) 43 (0,0)):=by rw[HZ.out];exact h1
   have HC2:=Lib.hid (fun(x:World) (hx:Below wr.heap.size wr x)=>Ype ((hx.block (B+1) (by omega)).trans h1'));have C1:=Lib.hid (fun(x:World) (hx:Below wr.heap.size wr x)=>((Yhd a x).mono fun e y h=>⟨h.1,h.2▸hx⟩:Calls Tryz.prog 107 #[.int .i64 a] x fun e y=>e=.returned (.int .i64 (Ykz a))∧Below wr.heap.size wr y))
   have C2:=Lib.hid (fun(x:World) (hx:Below wr.heap.size wr x)=>((Yhd b x).mono fun e y h=>⟨h.1,h.2▸hx⟩:Calls Tryz.prog 107 #[.int .i64 b] x fun e y=>e=.returned (.int .i64 (Ykz b))∧Below wr.heap.size wr y));have hca:=Ysc a;have hcb:=Ysc b;generalize Ykz a=a' at *;generalize Ykz b=b' at *;clear hc h1'
   go_wp2
   refine Yan (S:=fun x=>Below wr.heap.size wr x) 7 (by kernel_rfl) (by kernel_rfl) (Below.refl _ _).drew ?_;simp only[List.take_succ_cons,List.take_zero,List.drop_succ_cons,List.drop_zero];refine Yab (v:=?vc0) (by kernel_rfl) ?m ?_;(case m=>(intro x _;go_simp;try with_reducible rfl));simp only[Yaa]
   refine Yas 3 _ ⟨B+1,0,none⟩ (.int .i64 a) (by kernel_rfl) rfl rfl (fun x hx=>by have c0:=(HC2.out x hx).1;go_simp) ?_;simp only[Yaa];refine Ya5 (by kernel_rfl) C1.out (fun _=>by kernel_rfl) ?_;simp only[Yaa];refine Yab (v:=?vc3) (by kernel_rfl) ?m ?_;(case m=>(intro x _;go_simp;try with_reducible rfl));simp only[Yaa]
   refine Yas 3 _ ⟨B+1,1,none⟩ (.int .i64 b) (by kernel_rfl) rfl rfl (fun x hx=>by have c0:=(HC2.out x hx).2;go_simp) ?_;simp only[Yaa];refine Ya5 (by kernel_rfl) C2.out (fun _=>by kernel_rfl) ?_;simp only[Yaa];refine Yab (v:=?vc6) (by kernel_rfl) ?m ?_;(case m=>(intro x _;go_simp;try with_reducible rfl));simp only[Yaa];refine Ybi fun x hx=>?_;have k0:=(hx.block B (by omega)).trans h0
   have k1:=(hx.block (B+1) (by omega)).trans h1;have k2:=(hx.block (B+2) (by omega)).trans h2;have k3:=(hx.block (B+3) (by omega)).trans h3;have kb:=hb.trans (hx.mono (by omega));have kz:B+4≤x.heap.size:=by have:=hx.size;omega
   have HZS:Z.size=2:=by rw[←HZ.out];rfl
   go_wp2_with (refine Yad rfl 43 _ _ rfl (B+1) #[.int .i64 a',.int .i64 b'] Z rfl rfl 43 k1 (Yem a' b') HZS (Yzs a' b') ?_;intro w2 hh2 hg2)
   have hC2:∃Z2,Yh4 a' b'=Z2:=⟨_,rfl⟩;obtain⟨Z2,hZ2⟩:=hC2;have HSZ2:(Tryz.prog.info? 43).map (·.size)=some Z2.size:=by rw[←hZ2];exact Yem a' b'
   have j0:=(hg2.block B (by omega) (by intro e;injection e with e;omega)).trans k0;have j1:w2.heap[B+1]? =some (.cells Z2 43 (0,0)):=by rw[←hZ2];exact hh2
   have j2:=(hg2.block (B+2) (by omega) (by intro e;injection e with e;omega)).trans k2;have j3:w2.heap[B+3]? =some (Ydn 62 384 (Ybn (Yc5 k m f a b) (64*(3+1)))):=(hg2.block (B+3) (by omega) (by intro e;injection e with e;omega)).trans k3;have jb:Below B w w2:=kb.grown hg2 (by omega) (fun k hk=>by injection hk with hk;omega);have jz:B+4≤w2.heap.size:=Nat.le_trans kz hg2.size;have HZ2:=Lib.hid hZ2
   clear h0 h1 h2 h3 hb hz k0 k1 k2 k3 kb kz hx hh2 hg2 hZ2 C1 C2 HC2;generalize wr=wo at *
   go_loopw [15] (fun z wr=>∃p:Nat,(p=1∨p=2∨p=3)∧z=.int .i64 p∧wr.heap[B]? =some (frO 25 k v)∧wr.heap[B+1]? =some (.cells Z2 43 (0,0))∧wr.heap[B+2]? =some (.cells Y 62 (0,0))∧wr.heap[B+3]? =some (Ydn 62 384 (Ybn (Yc5 k m f a b) (64*(3+p))))∧Below B w wr∧B+4≤wr.heap.size) (fun z _=>3-(RowKit.intOf z).toNat)
   case atStart=>exact⟨1,.inl rfl,rfl,j0,j1,j2,j3,jb,jz⟩
   case round=>
    clear j0 j1 j2 j3 jb jz;obtain⟨p,hp3,rfl,h0,h1,h2,h3,hb,hz⟩:=hrel;by_cases hlt:p<3
    ·have hp:p=1∨p=2:=by omega
     have t1:decide ((p:Int)<3)=true:=by simp;omega
     obtain⟨i1,i2,i3,i4,i5⟩:=hC5.out p hp;have ho:=HO.out p (by omega);have h0':wr.heap[B]? =some (.cells X 25 (0,0)):=by rw[←HX.out];exact h0
     obtain⟨t,ht⟩:∃t,3+p=t:=⟨_,rfl⟩;have ht6:t<6:=by omega
     have hp6:=Lib.hid ht6;obtain⟨t1,ht1⟩:∃t1,t+1=t1:=⟨_,rfl⟩;have S1:(4:Int)+(p:Int)=(t1:Int):=by omega
     have S2:(t1:Int)-1=(t:Int):=by omega
     have S3:IntKind.i64.wrap (t1:Int)=(t1:Int):=Ybl (by omega);have S4:IntKind.i64.wrap (t:Int)=(t:Int):=Ybl (by omega);rw[ht] at i1 i2 i3 i4 i5 h3;have h4:64*(t+1)=64*(3+(p+1)):=by omega
     have H4:=Lib.hid h4;have HTP:=Lib.hid ht;clear ht1 h4 ht;have hG:=HPB.out t;rw[i3] at hG;generalize hGG:Ynd (f p) (wid k p) (Yp7 k m t a) (Yrc k m t b)=G at hG;have HSV:=Yau G;obtain⟨V,hV⟩:∃V,Ya7 G=V:=⟨_,rfl⟩;rw[hV] at HSV;have HVV:=Lib.hid hV;rw[←hGG] at hV
     replace hV:=Lib.hid hV
     have HG:=Lib.hid hG;clear hG hGG
     go_wp2
     refine wp_region_held_drew (S:=(fun x=>Below B w x∧x.heap[B]? =some (.cells X 25 (0,0))∧x.heap[B+1]? =some (.cells Z2 43 (0,0)))) (by kernel_rfl) ⟨hb.drew,h0',h1⟩ (fun hH=>?_);refine Yb9 0 (some 78) rfl rfl hH (by kernel_rfl) (fun x _=>by go_simp;try with_reducible rfl) ?_
     try simp only[Yaa]
     refine Yb9 1 (some 79) rfl rfl hH (by kernel_rfl) (fun x _=>by go_simp;try with_reducible rfl) ?_
     try simp only[Yaa]
     refine Yb9 2 (some 80) rfl rfl hH (by kernel_rfl) (fun x _=>by go_simp;try with_reducible rfl) ?_
     try simp only[Yaa]
     refine Yaj 3 (some 81) (v:=.agg X) rfl rfl (by kernel_rfl) (by kernel_rfl) (by kernel_rfl) (fun _ _ _ h=>h) hH (Or.inl ⟨by kernel_rfl,fun x hx=>Ya8 (ty:=25) (x:=.tmp 3) (ad:=⟨B,0,none⟩) (by kernel_rfl) (by kernel_rfl) (run_loadVar_row x (B) _ _ X (0,0) _ (hx.2.1) Tryz.underlying25 rfl HSX)⟩) ?_
     try simp only[Yaa]
     refine Yb9 4 (some 82) rfl rfl hH (by kernel_rfl) (fun x _=>by go_simp;try with_reducible rfl) ?_
     try simp only[Yaa]
     refine Yb9 6 (some 84) rfl rfl hH (by kernel_rfl) (fun x _=>by go_simp;try with_reducible rfl) ?_
     try simp only[Yaa]
     refine Yb9 7 (some 85) rfl rfl hH (by kernel_rfl) (fun x _=>by go_simp;try with_reducible rfl) ?_
     try simp only[Yaa]
     refine Yaj 8 (some 86) (v:=.agg Z2) rfl rfl (by kernel_rfl) (by kernel_rfl) (by kernel_rfl) (fun _ _ _ h=>h) hH (Or.inl ⟨by kernel_rfl,fun x hx=>Ya8 (ty:=43) (x:=.tmp 5) (ad:=⟨B+1,0,none⟩) (by kernel_rfl) (by kernel_rfl) (run_loadVar_row x (B+1) _ _ Z2 (0,0) _ (hx.2.2) Tryz.underlying43 rfl HSZ2)⟩) ?_
     try simp only[Yaa]
     refine wpAnyH_ready (rs:=[5]) (by kernel_rfl) (by simp) ?_;refine AllReadyH.cons rfl (fun K hK=>?_) AllReadyH.nil
     go_simp
     go_wp2_with fail
     refine(ho _).mono ?_;rintro e x1 ⟨c1,rfl,hc,hb1⟩;have hc2:=hc.mono (show B+4≤wr.drew.heap.size from hz);have k2:=(hb1.block (B+2) (show B+2<wr.heap.size by omega)).trans h2;have k3:=(hb1.block (B+3) (show B+3<wr.heap.size by omega)).trans h3;have kz:B+4≤x1.heap.size:=Nat.le_trans hz hb1.size;clear hc
     refine hK.out _ _ (⟨hH.1.trans (hb1.mono (show B≤wr.heap.size by omega)),(hb1.block B (show B<wr.heap.size by omega)).trans hH.2.1,(hb1.block (B+1) (show B+1<wr.heap.size by omega)).trans hH.2.2⟩) (fun hH2=>?_);clear hK K hH;have hH:=hH2;clear hH2
     try simp only[Yaa]
     refine wpAnyH_ready (rs:=[9]) (by kernel_rfl) (by simp) ?_;refine AllReadyH.cons rfl (fun K hK=>?_) AllReadyH.nil
     go_simp
     go_wp2_with fail
     have ct:=HT.out t hp6 x1 hH.1 c1 (B+4) (by rw[i3];exact hc2);rw[i1,i2,i3,i4,i5,HZ2.out,hV.out] at ct;refine ct.mono ?_;rintro e x2 ⟨rfl,hb2⟩;have l2:=(hb2.block (B+2) (by omega)).trans k2;have l3:=(hb2.block (B+3) (by omega)).trans k3;have lz:B+4≤x2.heap.size:=Nat.le_trans kz hb2.size
     refine hK.out _ _ (⟨hH.1.trans (hb2.mono (by omega)),(hb2.block B (by omega)).trans hH.2.1,(hb2.block (B+1) (by omega)).trans hH.2.2⟩) (fun hH2=>?_);clear hK K hH;have hH:=hH2;clear hH2
     try simp only[Yaa]
     refine Yb9 10 (some 88) (v:=.pointer (some ⟨B+1+1+1,t*64,none⟩)) rfl rfl hH (by kernel_rfl) (fun x _=>by go_simp;first|rw[if_pos (by omega)]|exact fun h6=>absurd h6 (by omega)) ?_
     try simp only[Yaa]
     refine wpAnyH_ready (rs:=[11]) (by kernel_rfl) (by simp) ?_;refine AllReadyH.cons rfl (fun K hK=>?_) AllReadyH.nil;refine(if_pos (by kernel_rfl)).mpr ?_;refine Ygt 60 _ _ rfl (B+1+1+1) t _ (by omega) 62 (Yc5 k m f a b) G V HVV.out rfl rfl l3 ht6 HG.out HSV (fun w5 hh5 hg5=>?_);have n0:=(hg5.block B (by omega) (by intro e;injection e with e;omega)).trans hH.2.1
     have n1:=(hg5.block (B+1) (by omega) (by intro e;injection e with e;omega)).trans hH.2.2;have n2:=(hg5.block (B+2) (by omega) (by intro e;injection e with e;omega)).trans l2;have nb:Below B w w5:=hH.1.grown hg5 (by omega) (fun k hk=>by injection hk with hk;omega);have nz:B+4≤w5.heap.size:=Nat.le_trans lz hg5.size;refine hK.out _ _ ⟨nb,n0,n1⟩ (fun hH2=>?_);clear hK K hH hH2
     try simp only[Act.put]
     refine wpAnyH_done (by kernel_rfl) ?_ _;have n3:w5.heap[B+3]? =some (Ydn 62 384 (Ybn (Yc5 k m f a b) (64*(3+(p+1))))):=by rw[←H4.out];exact hh5.out
     have n0':w5.heap[B]? =some (frO 25 k v):=by rw[←HX.out] at n0;exact n0
     clear h0 h1 h2 h3 hb hz hb1 hb2 k2 k3 kz l2 l3 lz ct hc2 hg5 hh5 n0 h0' S1 S2 S3 S4
     go_wp2
     go_roundw
     case rel=>exact⟨p+1,by omega,by go_num,n0',n1,n2,n3,nb,nz⟩
     case measure=>simp[RowKit.intOf];omega
    ·obtain rfl:p=3:=by omega
     have t1:decide ((3:Int)<3)=false:=by simp
     have HSV:=HPS (Ybn (Yc5 k m f a b) (64*6));have HOV:=Ybz 384 (Ybn (Yc5 k m f a b) (64*6));have HVS:(arn 384 (Ybn (Yc5 k m f a b) (64*6))).size=384:=Yar _ _;have HVE:arn 384 (Ybn (Yc5 k m f a b) (64*6))=arn 384 (Yc5 k m f a b):=Ybo (Ydu 384 (Yc5 k m f a b));have h3':wr.heap[B+3]? =some (.cells (arn 384 (Ybn (Yc5 k m f a b) (64*6))) 62 (0,0)):=h3;clear h3;rw[HVE] at HSV HOV HVS h3'
     obtain⟨V,hV⟩:∃V,arn 384 (Yc5 k m f a b)=V:=⟨_,rfl⟩;rw[hV] at HSV HOV HVS h3';have HVV:=Lib.hid hV;have HYV:Y.size=V.size:=by rw[HYS,HVS]
     clear HVE hV
     go_wp2_with (first|(with_reducible refine wpList_load_row rfl 62 _ rfl (B+3) rfl 62 V (0,0) _ h3' Tryz.underlying62 rfl HSV ?_)|(with_reducible refine Yad rfl 62 _ _ rfl (B+2) V Y rfl rfl 62 h2 HSV HYV HOV ?_;intro w4 hh4 hg4))
     refine bodyPost_ret (Yak rfl _ _ (B+2) 62 _ (0,0) _ rfl hh4 Tryz.underlying62 rfl HSV) rfl ?_;exact⟨by rw[HVV.out];rfl,by rw[HB.out];exact hb.grown hg4 (by omega) (fun k hk=>by injection hk with hk;omega)⟩
set_option maxRecDepth 1000000 in
set_option maxHeartbeats 8000000 in
theorem Ytu (k:Int)(v:Nat→Value)(n:Nat→Nat)(m a b:Int)(w:World)(h:∀p,p<3→∃a c,v p=.slice a (n p) c)(hno:(Ybk k n&&Yi6 k m a b)=false):
  Calls Tryz.prog 79 #[.agg (frA k v),.int .i64 m,.agg (Yh4 a b)] w fun e w'=>e=.returned (.tuple #[.agg (arn 384 fun _=>0),.int .i64 (if Ybk k n&&Yk1 k m then 8 else 1)])∧Below w.heap.size w w':=by
 obtain⟨B,wA,wB,wC,wD,hB,hwA,hwB,hwC,hwD,hzA,hzB,hzC,hzD,hD0,hD1,hD2,hD3,hbD⟩:=Yyy w (.cells (frA k v) 25 (0,0)) (.cells (Yh4 a b) 43 (0,0)) (.cells (arn 384 fun _=>0) 62 (0,0)) (.cells (arn 384 fun _=>0) 62 (0,0));have cR:=Yct k v n wD h;have cH:=fun w=>Yhi k m w;have cM:=fun w=>Ykf k m a b w;have hzp:=Yek;have HSX:=Ya0 Ybf k v;have HS2:=Yem a b;have HYS:(arn 384 fun _=>0).size=384:=Yar _ _
 have HSY:=Yb6 fun _=>0;have HOY:=Ybz 384 fun _=>0;obtain⟨X,hX⟩:∃X,frA k v=X:=⟨_,rfl⟩;have hD0':wD.heap[B]? =some (.cells X 25 (0,0)):=by rw[←hX];exact hD0
 replace hD0:wD.heap[B]? =some (frO 25 k v):=hD0
 rw[hX] at cR hwA HSX ⊢;obtain⟨Y,hY⟩:∃Y,(arn 384 fun _=>0)=Y:=⟨_,rfl⟩;rw[hY] at hwC hwD hzp HYS hD2 hD3 HSY HOY ⊢;obtain⟨Z,hZ⟩:∃Z,Yh4 a b=Z:=⟨_,rfl⟩;rw[hZ] at hwB HS2 hD1 cM ⊢;have HYY:Y.size=Y.size:=rfl;have HX:=Lib.hid hX;have HY:=Lib.hid hY;have HZ:=Lib.hid hZ;have HWA:=Lib.hid hwA;have HWB:=Lib.hid hwB;have HWC:=Lib.hid hwC;have HWD:=Lib.hid hwD;have HB:=Lib.hid hB
 clear hX hY hZ hwA hwB hwC hwD hB h;cases hr:Ybk k n with
 |false=>
  rw[hr] at cR
  go_enter Tryz.func79,Tryz.ntmps79
  go_wp2_with (rw[HWA.out,HB.out,HWB.out,HWC.out,HWD.out];with_reducible refine wpList_load_row rfl 25 _ rfl B rfl 25 X (0,0) _ hD0' Tryz.underlying25 rfl HSX ?_)
  refine cR.mono ?_;rintro e w1 ⟨rfl,hb1⟩;have h2:=(hb1.block (B+2) (by omega)).trans hD2;have h3:=(hb1.block (B+3) (by omega)).trans hD3;have hbw:=hbD.trans (hb1.mono (by omega))
  go_wp2_with (first|(with_reducible refine wpList_load_row rfl 62 _ rfl (B+3) rfl 62 Y (0,0) _ h3 Tryz.underlying62 rfl HSY ?_)|(with_reducible refine Yad rfl 62 _ _ rfl (B+2) Y Y rfl rfl 62 h2 HSY rfl HOY ?_;intro w4 hh4 hg4))
  refine bodyPost_ret (Yak rfl _ _ (B+2) 62 _ (0,0) _ rfl hh4 Tryz.underlying62 rfl HSY) rfl ?_;exact⟨by rfl,by rw[HB.out];exact hbw.grown hg4 (by have:=hb1.size;omega) (fun k hk=>by injection hk with hk;omega)⟩
 |true=>
  rw[hr] at cR hno;rw[Bool.true_and] at hno;have hz4:B+4≤wD.heap.size:=by omega
  cases hc:Yk1 k m with
  |false=>
   rw[hc] at cH
   go_enter Tryz.func79,Tryz.ntmps79
   go_wp2_with (rw[HWA.out,HB.out,HWB.out,HWC.out,HWD.out];with_reducible refine wpList_load_row rfl 25 _ rfl B rfl 25 X (0,0) _ hD0' Tryz.underlying25 rfl HSX ?_)
   refine cR.mono ?_;rintro e w1 ⟨rfl,hb1⟩;have h0:=(hb1.block B (by omega)).trans hD0;have h2:=(hb1.block (B+2) (by omega)).trans hD2;have h3:=(hb1.block (B+3) (by omega)).trans hD3;have hbw:=hbD.trans (hb1.mono (by omega));have ck:=Ybj h0
   go_wp2_with (first|(with_reducible refine(cH _).mono ?_;rintro e x ⟨rfl,rfl⟩)|(with_reducible refine wpList_load_row rfl 62 _ rfl (B+3) rfl 62 Y (0,0) _ h3 Tryz.underlying62 rfl HSY ?_)|(with_reducible refine Yad rfl 62 _ _ rfl (B+2) Y Y rfl rfl 62 h2 HSY rfl HOY ?_;intro w4 hh4 hg4))
   refine bodyPost_ret (Yak rfl _ _ (B+2) 62 _ (0,0) _ rfl hh4 Tryz.underlying62 rfl HSY) rfl ?_;exact⟨by rfl,by rw[HB.out];exact hbw.grown hg4 (by have:=hb1.size;omega) (fun k hk=>by injection hk with hk;omega)⟩
  |true=>
   rw[hc] at cH;rw[hno] at cM
   go_enter Tryz.func79,Tryz.ntmps79
   go_wp2_with (rw[HWA.out,HB.out,HWB.out,HWC.out,HWD.out];with_reducible refine wpList_load_row rfl 25 _ rfl B rfl 25 X (0,0) _ hD0' Tryz.underlying25 rfl HSX ?_)
   refine cR.mono ?_;rintro e w1 ⟨rfl,hb1⟩;have h0:=(hb1.block B (by omega)).trans hD0;have h1:=(hb1.block (B+1) (by omega)).trans hD1;have h2:=(hb1.block (B+2) (by omega)).trans hD2;have h3:=(hb1.block (B+3) (by omega)).trans hD3;have hbw:=hbD.trans (hb1.mono (by omega));have hz1:B+4≤w1.heap.size:=by have:=hb1.size;omega
   have ck:=Ybj h0
   go_wp2_with (first|(with_reducible refine(cH _).mono ?_;rintro e x ⟨rfl,rfl⟩)|(with_reducible refine wpList_load_row rfl 43 _ rfl (B+1) rfl 43 Z (0,0) _ h1 Tryz.underlying43 rfl HS2 ?_))
   refine(cM _).mono ?_;rintro e w2 ⟨rfl,hb2⟩;have k2:=(hb2.block (B+2) (by omega)).trans h2;have k3:=(hb2.block (B+3) (by omega)).trans h3;have kb:=hbw.trans (hb2.mono (by omega));have kz:B+4≤w2.heap.size:=Nat.le_trans hz1 hb2.size;clear h0 h1 h2 h3 hb1 hb2 hbw ck
   go_wp2_with (first|(with_reducible refine wpList_load_row rfl 62 _ rfl (B+3) rfl 62 Y (0,0) _ k3 Tryz.underlying62 rfl HSY ?_)|(with_reducible refine Yad rfl 62 _ _ rfl (B+2) Y Y rfl rfl 62 k2 HSY rfl HOY ?_;intro w4 hh4 hg4))
   refine bodyPost_ret (Yak rfl _ _ (B+2) 62 _ (0,0) _ rfl hh4 Tryz.underlying62 rfl HSY) rfl ?_;exact⟨by rfl,by rw[HB.out];exact kb.grown hg4 (by omega) (fun k hk=>by injection hk with hk;omega)⟩
def arb (n:Nat)(r:Nat→Int):Array Value:=((byL n r).map (Value.int .u8)).toArray
theorem Yfl (n:Nat)(r:Nat→Int):(arb n r).size=n:=by simp[arb,byL]
theorem Yz2 {n:Nat}(r:Nat→Int){i:Nat}(h:i<n):(arb n r)[i]? =some (.int .u8 (r i)):=by simp[arb,byL,h]
theorem Yrv (n:Nat)(r:Nat→Int):(arb n r).all (·.oneCell')=true:=by
 rw[Array.all_eq_true_iff_forall_mem];intro v hv;obtain⟨x,_,rfl⟩:=List.mem_map.1 (by simpa [arb] using hv:v∈(byL n r).map (Value.int .u8))
 rfl
theorem Yru {n:Nat}{f g:Nat→Int}(h:∀i,i<n→f i=g i):arb n f=arb n g:=by
 unfold arb byL;rw[List.map_congr_left fun i hi=>h i (List.mem_range.1 hi)]
theorem Yyb {n:Nat}(f:Nat→Int)(i:Nat)(v:Int):(arb n f).setIfInBounds i (.int .u8 v)=arb n (Ycw f i v):=by
 apply Array.ext';refine List.ext_getElem? fun k=>?_;by_cases e:i=k
 ·subst e;by_cases hk:i<n <;> simp[arb,byL,Ycw,hk]
 ·by_cases hk:k<n
  ·have hne:¬ k=i:=fun h=>e h.symm;simp[arb,byL,Ycw,hk,e,hne]
  ·simp[arb,byL,hk]
def Yrt (n:Nat)(f:Nat→Int):Obj:=.cells (arb n f) 105 (0,0)
theorem Yoh {w:World}{B i n:Nat}{f:Nat→Int}(h:w.heap[B]? =some (Yrt n f))(hi:i<n):w.cell? ⟨B,i,none⟩=some (.int .u8 (f i)):=by
 rw[cell_of_row w B i _ _ _ h];exact Yz2 f hi
theorem Yvh {w:World}{B i n:Nat}{f:Nat→Int}(h:w.heap[B]? =some (Yrt n f)):w.frozen? ⟨B,i,none⟩=false:=frozen_of_row w B i _ _ h
theorem Yya {w:World}{B i n:Nat}{f:Nat→Int}(v:Int)(h:w.heap[B]? =some (Yrt n f)):(w.setCell ⟨B,i,none⟩ (.int .u8 v)).heap[B]? =some (Yrt n (Ycw f i v)):=by
 rw[heap_setCell_same w B i _ _ _ h];unfold Yrt;rw[Yyb]
theorem Ylb (f:Nat→Int):(Tryz.prog.info? 105).map (·.size)=some (arb 8 f).size:=by
 rw[Yfl]
 kernel_rfl
theorem Yoi (w:World):(zeroValue 105).run Tryz.prog w=.ok (.agg (arb 8 fun _=>0)) w:=by
 have h:(Tryz.prog.info? 105).map (fun i=>i.zero)=some (some (.agg (arb 8 fun _=>0))):=by kernel_rfl
 generalize (arb 8 fun _=>0)=Z at h ⊢;cases hq:Tryz.prog.info? 105 with
 |none=>simp[hq] at h
 |some i=>
  simp[hq] at h;simp[zeroValue,typeInfo,hq,h]
def Ycx (l:Nat→Int)(y:Nat):Nat→Int:=fun x=>Yay (l (8*y+x)) 0 255
set_option maxRecDepth 100000 in
set_option maxHeartbeats 2000000 in
theorem Yrb (l:Nat→Int)(y:Nat)(w:World)(hy:y<8):Calls Tryz.prog 57 #[.agg (Ya7 l),.int .i64 (y:Int)] w fun e w'=>e=.returned (.agg (arb 8 (Ycx l y)))∧Below w.heap.size w w':=by
 obtain⟨B,wA,wB,wC,hB,hwA,hwB,hwC,hzA,hzB,hzC,hC0,hC1,hC2,hbC⟩:=Yic w (.cells (Ya7 l) 60 (0,0)) (.cells (arb 8 fun _=>0) 105 (0,0)) (.cells (arb 8 fun _=>0) 105 (0,0))
 replace hC0:wC.heap[B]? =some (Yf5 l):=hC0
 replace hC2:wC.heap[B+2]? =some (Yrt 8 (Ybn (Ycx l y) 0)):=hC2
 have hz0:=Yoi;have HPP:=Lib.hid (fun g=>Ylb g);have HYS:(arb 8 fun _=>0).size=8:=Yfl _ _;have C1:=Lib.hid (fun(x:Nat) w=>Ygk (l (8*y+x)) w);generalize Ya7 l=X at *;generalize (arb 8 fun _=>0)=Y at *;have HWA:=Lib.hid hwA;have HWB:=Lib.hid hwB;have HWC:=Lib.hid hwC;have HB:=Lib.hid hB;clear hwA hwB hwC hB hzA hzB
 go_enter Tryz.func57,Tryz.ntmps57
 go_wp2
 rw[HWA.out,HB.out,HWB.out,HWC.out]
 go_loopw [7] (fun z wr=>∃x:Nat,x≤8∧z=.int .i64 x∧wr.heap[B]? =some (Yf5 l)∧wr.heap[B+1]? =some (.cells Y 105 (0,0))∧wr.heap[B+2]? =some (Yrt 8 (Ybn (Ycx l y) x))∧Below B w wr∧B+3≤wr.heap.size) (fun z _=>8-(RowKit.intOf z).toNat)
 case atStart=>exact⟨0,by omega,rfl,hC0,hC1,hC2,hbC,by omega⟩
 case round=>
  clear hC0 hC1 hC2 hbC hzC;obtain⟨x,hx8,rfl,h0,h1,h2,hb,hz⟩:=hrel;by_cases hlt:x<8
  ·have t0:decide ((x:Int)<8)=true:=by simp;omega
   have cx:=C1.out x;have c0:=Yd2 h0 (show 8*y+x<64 by omega);have c2:=Yoh h2 hlt;have ff:=Yvh (i:=x) h2;have S:Ybn (Ycx l y) (x+1)=Ycw (Ybn (Ycx l y) x) x (Yay (l (8*y+x)) 0 255):=rfl
   have PUT:=Lib.hid (⟨Yba h0 (by simp;omega),Yba h1 (by simp),by rw[S];exact Yya _ h2,hb.setCell (by simp;omega) _,by simp[World.setCell];omega⟩:(wr.setCell ⟨B+1+1,x,none⟩ (.int .u8 (Yay (l (8*y+x)) 0 255))).heap[B]? =some (Yf5 l)∧(wr.setCell ⟨B+1+1,x,none⟩ (.int .u8 (Yay (l (8*y+x)) 0 255))).heap[B+1]? =some (.cells Y 105 (0,0))∧(wr.setCell ⟨B+1+1,x,none⟩ (.int .u8 (Yay (l (8*y+x)) 0 255))).heap[B+2]? =some (Yrt 8 (Ybn (Ycx l y) (x+1)))∧Below B w (wr.setCell ⟨B+1+1,x,none⟩ (.int .u8 (Yay (l (8*y+x)) 0 255)))∧B+3≤(wr.setCell ⟨B+1+1,x,none⟩ (.int .u8 (Yay (l (8*y+x)) 0 255))).heap.size)
   clear S;generalize Ybn (Ycx l y) x x=y2 at c2;generalize Yay (l (8*y+x)) 0 255=z at *;generalize l (8*y+x)=z1 at *;clear h0 h1 h2 hb hz
   go_wp2_with (with_reducible refine(cx _).mono ?_;rintro e w1 ⟨rfl,rfl⟩)
   go_roundw
   case rel=>exact⟨x+1,by omega,by go_num,PUT.out⟩
   case measure=>simp[RowKit.intOf];omega
  ·obtain rfl:x=8:=by omega
   have t0:decide ((8:Int)<8)=false:=by simp
   have HSV:=HPP.out (Ybn (Ycx l y) 8);have HOV:=Yrv 8 (Ybn (Ycx l y) 8);have HVS:(arb 8 (Ybn (Ycx l y) 8)).size=8:=Yfl _ _;have HVE:arb 8 (Ybn (Ycx l y) 8)=arb 8 (Ycx l y):=Yru (Ydu 8 (Ycx l y));have h2':wr.heap[B+2]? =some (.cells (arb 8 (Ybn (Ycx l y) 8)) 105 (0,0)):=h2;clear h2;rw[HVE] at HSV HOV HVS h2';obtain⟨V,hV⟩:∃V,arb 8 (Ycx l y)=V:=⟨_,rfl⟩;rw[hV] at HSV HOV HVS h2';have HVV:=Lib.hid hV
   have HYV:Y.size=V.size:=by rw[HYS,HVS]
   clear HVE hV
   go_wp2_with (first|(with_reducible refine wpList_load_row rfl 105 _ rfl (B+2) rfl 105 V (0,0) _ h2' Tryz.underlying105 rfl HSV ?_)|(with_reducible refine Yad rfl 105 _ _ rfl (B+1) V Y rfl rfl 105 h1 HSV HYV HOV ?_;intro w2 hh2 hg2))
   refine bodyPost_ret (results_cell_row rfl _ _ (B+1) 105 _ (0,0) _ rfl hh2 Tryz.underlying105 rfl HSV) rfl ?_;exact⟨by rw[HVV.out],by rw[HB.out];exact hb.grown hg2 (by omega) (fun k hk=>by injection hk with hk;omega)⟩
theorem Yxj (l:Nat→Int)(y i:Nat):0≤Ycx l y i∧Ycx l y i≤255:=⟨Ybw _ _ _,Ybv _ _ _ (by omega)⟩
theorem Yxi (pt:Nat→Int)(b y i:Nat):Ycx (fun j=>pt (b*64+j)) y i=Yay (pt (64*b+8*y+i)) 0 255:=by
 show Yay (pt (b*64+(8*y+i))) 0 255=_;rw[show b*64+(8*y+i)=64*b+8*y+i by omega]
theorem Ypu {w:World}{g q R c1 c2 n:Nat}{f r:Nat→Int}{v:Value}{ty:TypeId}(h:Yc7 w v g n f)(hq:q+8≤n)(hR:w.heap[R]? =some (Yrt 8 r)):
  (Builtin.copy_ #[22,22] ty #[.slice (some ⟨g,q,none⟩) 8 c1,.slice (some ⟨R,0,none⟩) 8 c2]).run Tryz.prog w=.ok (.int .i64 8) (w.setCells g q ((byL 8 r).map (Value.int .u8))):=by
 obtain⟨c,rfl,hc,h⟩:=h;have hl:((byL 8 r).map (Value.int .u8)).length=8:=by rw[List.length_map,Yj7]
 have hr:=run_copy_cells (P:=Tryz.prog) w 22 22 ty 5 g q 8 c1 ⟨R,0,none⟩ 8 c2 ((byL 8 r).map (Value.int .u8)) Tryz.underlying22 Ykv (by rw[hl];rfl)
  (fun j u hj=>by
   have hj2:=(List.getElem?_eq_some_iff.1 hj).1;rw[hl] at hj2;have e1:(⟨R,0,none⟩:Addr).add j=⟨R,j,none⟩:=by unfold Addr.add;split <;> simp_all
   rw[e1,Yoh hR hj2]
   simpa [byL,hj2] using hj)
  (fun j hj=>by rw[hl] at hj;rw[(h (q+j) (by omega)).1];rfl) (fun j hj=>by rw[hl] at hj;exact(h (q+j) (by omega)).2.1)
  (fun u hu=>by obtain⟨x,_,rfl⟩:=List.mem_map.1 hu;rfl)
 rw[hl] at hr;exact hr
set_option maxRecDepth 1000000 in
set_option maxHeartbeats 8000000 in
theorem Ywb (k:Int)(C lo:Nat)(v:Nat→Value)(g:Nat→Nat)(f:Nat→Nat→Int)(m:Nat)(pt:Nat→Int)(w:World)(hC:w.heap[C]? =some (frO 98 k v))(hO:Yb0 w lo v g (siz k) f)(hCg:∀p,p<3→C≠g p)(hm:m<Ybc k):
  Calls Tryz.prog 31 #[.pointer (some ⟨C,0,none⟩),.int .i64 (m:Int),.agg (arn 384 pt)] w fun e w'=>e=.returned (.int .i64 0)∧Yc0 g w w'∧Yb0 w' lo v g (siz k) (Yid k m pt f 384):=by
 have c2:∀w,Calls Tryz.prog 55 #[.int .i64 k,.int .i64 (m:Int)] w fun e w'=>e=.returned (.bool true)∧w=w':=fun w=>(Ylw k m w).mono fun e y h=>⟨h.1.trans (by rw[Yd3.2 ⟨by omega,by simpa using hm⟩]),h.2⟩;have hHN:∀p,p<3→0<siz k p:=fun p _=>Yby (Yr9 hm) p;have HN:=Lib.hid hHN;have hCs:C<w.heap.size:=(Array.getElem?_eq_some_iff.1 hC).1
 have hgs:∀p,p<3→g p<w.heap.size:=fun p hp=>(hO.pl p hp).lt (hHN p hp);have HGS:=Lib.hid hgs;have HCG:=Lib.hid hCg;obtain⟨B,hB⟩:∃B,w.heap.size=B:=⟨_,rfl⟩;have HSX:=Yb6 pt;have HPI:=Lib.hid (fun b (hb:b<6) w=>Ywp pt hb w);obtain⟨X,hX⟩:∃X,arn 384 pt=X:=⟨_,rfl⟩;rw[hX] at HPI HSX ⊢;obtain⟨wA,hwA⟩:∃wA,w.alloc (.cells X 62 (0,0))=wA:=⟨_,rfl⟩
 have hbA:Below w.heap.size w wA:=by rw[←hwA];exact(Below.refl _ w).alloc (Nat.le_refl _) _
 have hA0:wA.heap[B]? =some (.cells X 62 (0,0)):=by rw[←hwA,←hB];exact heap_alloc_new w _
 have hA1:wA.heap[C]? =some (frO 98 k v):=by rw[←hwA];exact Yaq hC
 have hAO:=hO.below hHN hbA;have hAK:Yc0 g w wA:=Yc0.of_below hbA;have hzA:wA.heap.size=B+1:=by rw[←hwA,←hB];simp
 have ck:(w.alloc (.cells X 62 (0,0))).cell? ⟨C,0,none⟩=some (.int .i64 k):=Ybj (T:=98) (v:=v) (Yaq hC);have HWA:=Lib.hid hwA;have HB:=Lib.hid hB;have c3:=Lib.hid (fun b (hb:b<6) w=>Yrg k m b w hm hb);have c4:=Lib.hid (fun l y (hy:y<8) w=>Yrb l y w hy);clear hX hwA hB hO hC hHN hgs hCg hbA
 go_enter Tryz.func31,Tryz.ntmps31
 go_wp2_with (first|(with_reducible refine(c2 _).mono ?_;rintro e w1 ⟨rfl,rfl⟩)|(rw[HWA.out,HB.out];with_reducible refine wpList_load_row rfl 62 _ rfl B rfl 62 X (0,0) _ hA0 Tryz.underlying62 rfl HSX ?_))
 clear ck hA0 c2 HSX HWA
 go_loopw [25] (fun z wr=>∃b:Nat,b≤6∧z=.int .i64 b∧wr.heap[C]? =some (frO 98 k v)∧Yb0 wr lo v g (siz k) (Yid k m pt f (64*b))∧Yc0 g w wr∧B+1≤wr.heap.size) (fun z _=>6-(RowKit.intOf z).toNat)
 case atStart=>exact⟨0,by omega,rfl,hA1,hAO,hAK,by omega⟩
 case round=>
  clear hA1 hAO hAK hzA;obtain⟨b,hb6,rfl,h0,hO,hK,hz⟩:=hrel;generalize wr=wo at *;by_cases hlt:b<6
  ·have t0:decide ((b:Int)<6)=true:=by simp;omega
   have cw:=fun x=>c3.out b hlt x;have hpi:=fun w=>HPI.out b hlt w;have ck:=Ybj h0;have HSA:=Yau fun j=>pt (b*64+j);have HOA:=Ybd fun j=>pt (b*64+j);have hza:=Yb5;have HYA:(Ya7 fun _=>0).size=(Ya7 fun j=>pt (b*64+j)).size:=by rw[Yam,Yam]
   have C4:=Lib.hid (fun y (hy:y<8) w=>c4.out (fun j=>pt (b*64+j)) y hy w);obtain⟨w1,hw1⟩:∃w1,wo.alloc (.cells (Ya7 fun j=>pt (b*64+j)) 60 (0,0))=w1:=⟨_,rfl⟩;have h1c:w1.heap[C]? =some (frO 98 k v):=by rw[←hw1];exact Yaq h0
   have hb1:Below wo.heap.size wo w1:=by rw[←hw1];exact(Below.refl _ wo).alloc (Nat.le_refl _) _
   have h1a:w1.heap[wo.heap.size]? =some (.cells (Ya7 fun j=>pt (b*64+j)) 60 (0,0)):=by rw[←hw1];exact heap_alloc_new wo _
   have h1s:w1.heap.size=wo.heap.size+1:=by rw[←hw1];simp
   have hO1:=hO.below HN.out hb1;have hK1:=hK.trans (Yc0.of_below hb1);have ck1:=Ybj h1c;generalize Ya7 (fun j=>pt (b*64+j))=XA at *;generalize (Ya7 fun _=>0)=YA at *;have HW1:=Lib.hid hw1;clear hw1 hb1 hO hK h0
   go_wp2_with (with_reducible refine Yaf rfl 60 _ _ rfl XA YA 60 rfl rfl HSA HYA HOA ?_;rw[HW1.out])
   refine(cw _).mono ?_;rintro e x2 ⟨rfl,hb2⟩;have hP3:=Yfv hlt;have hNm:siz k (plc b)≤1073741824:=by have:=Yeu k (plc b);omega
   have HLI:=Lib.hid (fun y (hy:y<8)=>Ys7 hm hlt hy);have HRW:=Lib.hid (fun y (hy:y<8) p j=>Ys4 k m pt f b y hy p j 8 (by omega));have h2c:=(hb2.block C (by have:=hK1.size;omega)).trans h1c;have h2a:=(hb2.block wo.heap.size (by omega)).trans h1a;have hO2:=hO1.below HN.out hb2;have hK2:=hK1.trans (Yc0.of_below hb2);have h2s:=hb2.size
   obtain⟨w3,hw3⟩:∃w3,x2.alloc (.cells (Yj0 (plc b) (Yk0 k m b) (wid k (plc b))) 103 (0,0))=w3:=⟨_,rfl⟩;have h3c:w3.heap[C]? =some (frO 98 k v):=by rw[←hw3];exact Yaq h2c
   have hb3:Below x2.heap.size x2 w3:=by rw[←hw3];exact(Below.refl _ x2).alloc (Nat.le_refl _) _
   have h3a:w3.heap[wo.heap.size]? =some (.cells XA 60 (0,0)):=by rw[←hw3];exact Yaq h2a
   have h3r:w3.heap[x2.heap.size]? =some (.cells (Yj0 (plc b) (Yk0 k m b) (wid k (plc b))) 103 (0,0)):=by rw[←hw3];exact heap_alloc_new x2 _
   have h3s:w3.heap.size=x2.heap.size+1:=by rw[←hw3];simp
   have hO3:=hO2.below HN.out hb3;have hK3:=hK2.trans (Yc0.of_below hb3);have hRR:B+1≤wo.heap.size∧wo.heap.size<x2.heap.size∧x2.heap.size<w3.heap.size:=by omega
   unfold Yj0 at hw3;have HW3:=Lib.hid hw3;have HSR:=Ypi (plc b) (Yk0 k m b) (wid k (plc b));have CLN:=Lib.hid (fun y (hy:y<8) c (hc:siz k (plc b)≤c) (hv:v (plc b)=.slice (some ⟨g (plc b),0,none⟩) (siz k (plc b)) c) x=>Ys6 (plc b) (Yk0 k m b) (wid k (plc b)) y (siz k (plc b)) 0 c (g (plc b)) v x hP3 hv hc (HLI.out y hy) hNm)
   clear hw3 hb2 hb3 hO1 hO2 hK1 hK2 h1c h2c h1a h2a h2s h1s h3s cw ck ck1 hpi hz HW1 HYA HOA hza;unfold Yj0
   go_wp2
   rw[HW3.out];generalize wo.heap.size=R1 at *;generalize x2.heap.size=R2 at *;generalize Yj0 (plc b) (Yk0 k m b) (wid k (plc b))=AA at *;clear HW3
   go_loopw [37] (fun z wr=>∃y:Nat,y≤8∧z=.int .i64 y∧wr.heap[C]? =some (frO 98 k v)∧wr.heap[R1]? =some (.cells XA 60 (0,0))∧wr.heap[R2]? =some (.cells AA 103 (0,0))∧Yb0 wr lo v g (siz k) (Yid k m pt f (64*b+8*y))∧Yc0 g w wr∧R2<wr.heap.size) (fun z _=>8-(RowKit.intOf z).toNat)
   case atStart=>exact⟨0,by omega,rfl,h3c,h3a,h3r,hO3,hK3,hRR.2.2⟩
   case round=>
    clear h3c h3a h3r hO3 hK3;obtain⟨y,hy8,rfl,h0,ha,hr,hO,hK,hz⟩:=hrel;generalize wr=wp at *;by_cases hly:y<8
    ·have t1:decide ((y:Int)<8)=true:=by simp;omega
     go_wp2_with (with_reducible refine wpList_load_row rfl 60 _ rfl R1 rfl 60 XA (0,0) _ ha Tryz.underlying60 rfl HSA ?_)
     refine(C4.out y hly _).mono ?_;rintro e x3 ⟨rfl,hb3⟩;have HSV:=Ylb (Ycx (fun j=>pt (b*64+j)) y);have HOV:=Yrv 8 (Ycx (fun j=>pt (b*64+j)) y);have hzv:=Yoi;have HYV:(arb 8 fun _=>0).size=(arb 8 (Ycx (fun j=>pt (b*64+j)) y)).size:=by rw[Yfl,Yfl]
     obtain⟨w4,hw4⟩:∃w4,x3.alloc (.cells (arb 8 (Ycx (fun j=>pt (b*64+j)) y)) 105 (0,0))=w4:=⟨_,rfl⟩;have hb4:Below wp.heap.size wp w4:=by rw[←hw4];exact hb3.trans ((Below.refl _ x3).alloc hb3.size _)
     have h4r:w4.heap[x3.heap.size]? =some (Yrt 8 (Ycx (fun j=>pt (b*64+j)) y)):=by rw[←hw4];exact heap_alloc_new x3 _
     have h4s:w4.heap.size=x3.heap.size+1:=by rw[←hw4];simp
     have h40:=(hb4.block C (by have:=hK.size;omega)).trans h0;have h4a:=(hb4.block R1 (by omega)).trans ha;have h4x:=(hb4.block R2 (by omega)).trans hr;have hO4:=hO.below HN.out hb4;have hK4:=hK.trans (Yc0.of_below hb4);have hz4:R2<x3.heap.size:=by have:=hb3.size;omega
     have HW4:=Lib.hid hw4;obtain⟨cv,hv,hcv,-⟩:=hO4.pl _ hP3;have CL0:=CLN.out y hly cv hcv hv;have hq:=HLI.out y hly;have HRY:=Lib.hid (HRW.out y hly);generalize Yk0 k m b+y*wid k (plc b)=q at CL0 hq HRY
     have CL:=Lib.hid (fun(x:World) (hx:Below w4.heap.size w4 x)=>((CL0 x).mono fun e y h=>⟨by rw[h.1,Nat.zero_add],hx.trans (h.2.mono hx.size)⟩:Calls Tryz.prog 58 #[.agg AA,.agg #[v 0,v 1,v 2],.int .i64 (y:Int)] x fun e y=>e=.returned (.slice (some ⟨g (plc b),q,none⟩) 8 (cv-q))∧Below w4.heap.size w4 y))
     have HXA:=Lib.hid (fun(x:World) (hx:Below w4.heap.size w4 x)=>(hx.block R2 (by omega)).trans h4x);have HXC:=Lib.hid (fun(x:World) (hx:Below w4.heap.size w4 x) p (hp:p<3)=>Yco ((hx.block C (by have:=hK4.size;omega)).trans h40) hp)
     have HE:=Lib.hid (fun(x:World) (hx:Below w4.heap.size w4 x)=>(⟨(hx.block C (by have:=hK4.size;omega)).trans h40,(hx.block R1 (by omega)).trans h4a,(hx.block R2 (by omega)).trans h4x,(hx.block x3.heap.size (by omega)).trans h4r,hO4.below HN.out hx,hK4.trans (Yc0.of_below hx)⟩:x.heap[C]? =some (frO 98 k v)∧x.heap[R1]? =some (.cells XA 60 (0,0))∧x.heap[R2]? =some (.cells AA 103 (0,0))∧x.heap[x3.heap.size]? =some (Yrt 8 (Ycx (fun j=>pt (b*64+j)) y))∧Yb0 x lo v g (siz k) (Yid k m pt f (64*b+8*y))∧Yc0 g w x))
     have HRB:=Lib.hid (Yxj (fun j=>pt (b*64+j)) y);have HRE:=Lib.hid (Yxi pt b y);generalize Ycx (fun j=>pt (b*64+j)) y=r at *;generalize arb 8 r=V at *;generalize (arb 8 fun _=>0)=Y8 at *;clear hw4 hb4 hb3 h0 ha hr hO hK hz h40 h4a h4x h4r hO4 hK4 CL0
     go_wp2_with (with_reducible refine Yaf rfl 105 _ _ rfl V Y8 105 rfl rfl HSV HYV HOV ?_;rw[HW4.out])
     generalize x3.heap.size=R3 at *;refine Yan (S:=fun x=>Below w4.heap.size w4 x) 9 (by kernel_rfl) (by kernel_rfl) (Below.refl _ _).drew ?_;simp only[List.take_succ_cons,List.take_zero,List.drop_succ_cons,List.drop_zero];refine Yc9 103 _ R2 103 AA (0,0) _ (by kernel_rfl) rfl rfl (fun x hx=>HXA.out x hx) Tryz.underlying103 rfl HSR ?_;simp only[Yaa]
     refine Yab (v:=?v1) (by kernel_rfl) ?m ?_;(case m=>(intro x _;go_simp;try with_reducible rfl));simp only[Yaa];refine Yab (v:=?v2) (by kernel_rfl) ?m ?_;(case m=>(intro x _;go_simp;try with_reducible rfl));simp only[Yaa];refine Yab (v:=?v3) (by kernel_rfl) ?m ?_;(case m=>(intro x _;go_simp;try with_reducible rfl));simp only[Yaa]
     refine Yab (v:=?v4) (by kernel_rfl) ?m ?_;(case m=>(intro x _;go_simp;try with_reducible rfl));simp only[Yaa];refine Yab (v:=.agg #[v 0,v 1,v 2]) (by kernel_rfl) ?m ?_;(case m=>(intro x hx;have p0:=HXC.out x hx 0 (by omega);have p1:=HXC.out x hx 1 (by omega);have p2:=HXC.out x hx 2 (by omega);go_simp;try with_reducible rfl));simp only[Yaa]
     refine Yab (v:=?v6) (by kernel_rfl) ?m ?_;(case m=>(intro x _;go_simp;try with_reducible rfl));simp only[Yaa];refine Ya5 (by kernel_rfl) CL.out (fun _=>by kernel_rfl) ?_;simp only[Yaa];refine Yab (v:=.slice (some ⟨R3,0,none⟩) 8 8) (by kernel_rfl) ?m ?_;(case m=>(intro x hx;go_simp;try with_reducible rfl));simp only[Yaa];refine Ybi fun x hx=>?_;obtain⟨g0,ga,gr,gv,gO,gK⟩:=HE.out x hx
     have hcp:=fun ty=>Ypu (ty:=ty) (c1:=cv-q) (c2:=8) (gO.pl _ hP3) hq gv;have hgP:g (plc b)<B:=by rw[←HB.out];exact HGS.out _ hP3
     have nO:=(gO.sets hP3 q 8 r (fun i _=>HRB.out i) hq).congr (f':=Yid k m pt f (64*b+8*(y+1))) (fun p _ j _=>by
      have e1:=HRY.out p j;rw[show 64*b+8*y+8=64*b+8*(y+1) by omega] at e1;rw[e1];by_cases e:p=plc b∧q≤j∧j<q+8
      ·rw[if_pos e,if_pos e,HRE.out]
      ·rw[if_neg e,if_neg e])
     have n0:=(Yb2 (g (plc b)) ((byL 8 r).map (Value.int .u8)) q x C (HCG.out _ hP3)).trans g0;have na:=(Yb2 (g (plc b)) ((byL 8 r).map (Value.int .u8)) q x R1 (by omega)).trans ga;have nr:=(Yb2 (g (plc b)) ((byL 8 r).map (Value.int .u8)) q x R2 (by omega)).trans gr;have nK:=gK.trans (Yc0.of_grown hP3 rfl (Yb3 (g (plc b)) ((byL 8 r).map (Value.int .u8)) q x))
     have nz:R2<(x.setCells (g (plc b)) q ((byL 8 r).map (Value.int .u8))).heap.size:=by rw[Yfy];have:=hx.size;omega
     generalize x.setCells (g (plc b)) q ((byL 8 r).map (Value.int .u8))=wn at *;have REL:=Lib.hid (⟨n0,na,nr,nO,nK,nz⟩:wn.heap[C]? =some (frO 98 k v)∧wn.heap[R1]? =some (.cells XA 60 (0,0))∧wn.heap[R2]? =some (.cells AA 103 (0,0))∧Yb0 wn lo v g (siz k) (Yid k m pt f (64*b+8*(y+1)))∧Yc0 g w wn∧R2<wn.heap.size);clear n0 na nr nO nK nz g0 ga gr gv gO gK hgP hx
     go_wp2_with (at_builtin;refine Lib.wpList_copy_run _ rfl _ _ 22 22 rfl _ _ rfl rfl (hcp _) ?_)
     go_roundw
     case rel=>exact⟨y+1,by omega,by go_num,REL.out⟩
     case measure=>simp[RowKit.intOf];omega
    ·obtain rfl:y=8:=by omega
     have t1:decide ((8:Int)<8)=false:=by simp
     have hO':Yb0 wp lo v g (siz k) (Yid k m pt f (64*(b+1))):=hO;have hz':B+1≤wp.heap.size:=by omega
     clear hO ha hr
     go_wp2
     go_roundw
     case rel=>exact⟨b+1,by omega,by go_num,h0,hO',hK,hz'⟩
     case measure=>simp[RowKit.intOf];omega
  ·obtain rfl:b=6:=by omega
   have t0:decide ((6:Int)<6)=false:=by simp
   have hO':Yb0 wo lo v g (siz k) (Yid k m pt f 384):=hO;clear hO
   go_wp2
   go_ret
   exact⟨rfl,hK,hO'⟩
end Go.Proofs.YtnamlooifcpoaaaGreatDoor