/- No condition. -/
import Derived.Test.YtnamlooifcpoaaaGreatDoorScreensStillMa
import Derived.Test.YtnamlooifcpoaaaGreatDoorScreensStillMd
import Derived.Test.YtnamlooifcpoaaaGreatDoorScreensStillMe
import Derived.Test.YtnamlooifcpoaaaGreatDoorScreensStillMf
import Derived.Test.YtnamlooifcpoaaaGreatDoorScreensStillMg
import Derived.Test.YtnamlooifcpoaaaGreatDoorScreensStillMk
import Derived.Test.YtnamlooifcpoaaaGreatDoorScreensStillMp
import Derived.Test.YtnamlooifcpoaaaGreatDoorScreensStillMr
import Derived.Test.YtnamlooifcpoaaaGreatDoorScreensStillMs
import Derived.Test.YtnamlooifcpoaaaGreatDoorScreensStillMu
import Derived.Test.YtnamlooifcpoaaaGreatDoorScreensStillMv
import Derived.Test.YtnamlooifcpoaaaGreatDoorScreensStillMy
import Derived.Test.YtnamlooifcpoaaaGreatDoorScreensStillMz
import Derived.Test.YtnamlooifcpoaaaGreatDoorScreensStillMbb
import Derived.Test.YtnamlooifcpoaaaGreatDoorScreensStillMbg
import Derived.Test.YtnamlooifcpoaaaGreatDoorScreensStillMbh
import Derived.Test.YtnamlooifcpoaaaGreatDoorScreensStillMbi
import Derived.Test.YtnamlooifcpoaaaGreatDoorScreensStillMbj
import Derived.Test.YtnamlooifcpoaaaGreatDoorScreensStillMbk
import Derived.Test.YtnamlooifcpoaaaGreatDoorScreensStillMbm
import Derived.Test.YtnamlooifcpoaaaGreatDoorScreensStillMbn
import Derived.Test.YtnamlooifcpoaaaGreatDoorScreensStillMbu
import Derived.Test.YtnamlooifcpoaaaGreatDoorScreensStillMbv
import Derived.Test.YtnamlooifcpoaaaGreatDoorScreensStillMbw
import Derived.Test.YtnamlooifcpoaaaGreatDoorScreensStillMbx
import Derived.Test.YtnamlooifcpoaaaGreatDoorScreensStillMby
import Derived.WalkMore
import Derived.RegionTactic
import Derived.Deep.MidRow
import Derived.WalkKit
import Derived.Laws.OwnMore
namespace Go.Proofs.YtnamlooifcpoaaaGreatDoor
open Go.RowKit Go.Lib
set_option maxRecDepth 100000 in
set_option maxHeartbeats 2000000 in
theorem Ypg (k K:Int)(v:Nat→Value)(n:Nat→Nat)(w:World)(hv:∀p,p<3→∃a c,v p=.slice a (n p) c):
  Calls Tryz.prog 16 #[.agg (frA k v),.int .i64 K] w fun e w'=>e=.returned (.bool (Yec k n K))∧Below w.heap.size w w':=by
 have CR:=fun(x:World)=>Yct k v n x hv;obtain⟨B,hB⟩:∃B,w.heap.size=B:=⟨_,rfl⟩;obtain⟨wA,hwA⟩:∃wA,w.alloc (.cells (frA k v) 25 (0,0))=wA:=⟨_,rfl⟩;have hhA:wA.heap[B]? =some (.cells (frA k v) 25 (0,0)):=by rw[←hwA,←hB];exact heap_alloc_new w _
 have hbA:Below w.heap.size w wA:=by rw[←hwA];exact(Below.refl _ w).alloc (Nat.le_refl _) _
 have hsA:wA.heap.size=B+1:=by rw[←hwA,←hB];simp
 have FM:=Lib.hid (fun(x:World) (hx:Below wA.heap.size wA x)=>(Ybj (T:=25) (v:=v) ((hx.block B (by omega)).trans hhA):x.cell? ⟨B,0,none⟩=some (.int .i64 k)));have UP:=Lib.hid (fun(x:World) (hx:Below wA.heap.size wA x)=>(hbA.trans (hx.mono hbA.size):Below w.heap.size w x));have HSX:=Ya0 Ybf k v;have HE:=Lib.hid (show Yec k n K=(Ybk k n&&k==K) from rfl);generalize frA k v=X at *
 generalize Yec k n K=E at *;generalize Ybk k n=r at *;have HWA:=Lib.hid hwA;have HB:=Lib.hid hB;clear hwA hB hbA hsA hv;cases r with
 |false=>
  go_enter Tryz.func16,Tryz.ntmps16
  go_wp2_with (rw[HWA.out,HB.out];with_reducible refine wpList_load_row rfl 25 _ rfl B rfl 25 X (0,0) _ hhA Tryz.underlying25 rfl HSX ?_)
  refine(CR _).mono ?_;rintro e x1 ⟨rfl,hb1⟩;have hend:=UP.out _ hb1
  go_wp2
  go_ret
  exact⟨by rw[HE.out];rfl,hend⟩
 |true=>
  go_enter Tryz.func16,Tryz.ntmps16
  go_wp2_with (rw[HWA.out,HB.out];with_reducible refine wpList_load_row rfl 25 _ rfl B rfl 25 X (0,0) _ hhA Tryz.underlying25 rfl HSX ?_)
  refine(CR _).mono ?_;rintro e x1 ⟨rfl,hb1⟩;have hend:=UP.out _ hb1;have f1:=FM.out _ hb1
  go_wp2
  go_ret
  exact⟨by rw[HE.out];rfl,hend⟩
structure Yoc (B C P:Nat) (w0:World) (K:Int) (vc:Nat→Value) (gc:Nat→Nat) (F:Nat→Nat→Int) (x:World):Prop where
 can:Yjx x B C K vc gc F
 pat:∃V:Array Value,V.size=384∧x.heap[P]? =some (.cells V 62 (0,0))
 low:Below B w0 x
 size:P<x.heap.size
 lt:∀p,p<3→gc p<P
 clt:C<P
section
variable {B C P:Nat}{w0 x y:World}{K:Int}{vc:Nat→Value}{gc:Nat→Nat}{F F':Nat→Nat→Int}{V:Array Value}
theorem Yoc.base (h:Yoc B C P w0 K vc gc F x):B≤P∧B≤x.heap.size:=⟨by have:=h.can.low;have:=h.clt;omega,by have:=h.can.low;have:=h.clt;have:=h.size;omega⟩
theorem Yoc.below (h:Yoc B C P w0 K vc gc F x)(hk:Ybr K=true)(hb:Below x.heap.size x y):Yoc B C P w0 K vc gc F y:=by
 obtain⟨V,hv,hh⟩:=h.pat;exact⟨h.can.below hk hb,⟨V,hv,(hb.block P h.size).trans hh⟩,h.low.trans (hb.mono h.base.2),Nat.lt_of_lt_of_le h.size hb.size,h.lt,h.clt⟩
theorem Yoc.put (h:Yoc B C P w0 K vc gc F x)(hk:Ybr K=true)(hg:x.grownBy y (some P))(hV:V.size=384)(hh:y.heap[P]? =some (.cells V 62 (0,0))):Yoc B C P w0 K vc gc F y:=by
 refine⟨⟨(hg.block C (by have:=h.clt;have:=h.size;omega) (fun e=>by injection e with e;have:=h.clt;omega)).trans h.can.there,h.can.own.keep fun p hp=>hg.block _ ((h.can.own.pl p hp).lt (Yby hk p)) (fun e=>by injection e with e;have:=h.lt p hp;omega),h.can.low,h.can.far⟩,⟨V,hV,hh⟩,?_,Nat.lt_of_lt_of_le h.size hg.size,h.lt,h.clt⟩
 exact h.low.grown hg h.base.2 (fun k hk=>by injection hk with hk;have:=h.base.1;omega)
theorem Yoc.lay (h:Yoc B C P w0 K vc gc F x)(hK:Yc0 gc x y)(hO:Yb0 y B vc gc (siz K) F'):Yoc B C P w0 K vc gc F' y:=by
 obtain⟨V,hv,hh⟩:=h.pat;exact⟨⟨(hK.block C (by have:=h.clt;have:=h.size;omega) h.can.far).trans h.can.there,hO,h.can.low,h.can.far⟩,⟨V,hv,(hK.block P h.size fun p hp=>by have:=h.lt p hp;omega).trans hh⟩,h.low.trans (hK.to_below h.base.2 hO.from_),Nat.lt_of_lt_of_le h.size hK.size,h.lt,h.clt⟩
end
def Yxv (B C bq oq:Nat)(X A:Array Value)(u:Value)(z:World):Prop:=z.heap[B]? =some (.cells X 25 (0,0))∧z.heap[C]? =some (.cells A 48 (0,0))∧z.cell? ⟨bq,oq,none⟩=some u
theorem Yxv.below {B C bq oq:Nat}{X A:Array Value}{u:Value}{z y:World}(h:Yxv B C bq oq X A u z)(hq:bq<z.heap.size)(hb:Below z.heap.size z y):Yxv B C bq oq X A u y:=
 ⟨(hb.block B (Array.getElem?_eq_some_iff.1 h.1).1).trans h.1,(hb.block C (Array.getElem?_eq_some_iff.1 h.2.1).1).trans h.2.1,(World.cell?_of_block (a:=⟨bq,oq,none⟩) (hb.block bq hq)).trans h.2.2⟩
theorem Yxv.grown {B C P bq oq:Nat}{X A:Array Value}{u:Value}{z y:World}(h:Yxv B C bq oq X A u z)(hq:bq<z.heap.size)(hg:z.grownBy y (some P))(h1:B≠P)(h2:C≠P)(h3:bq≠P):Yxv B C bq oq X A u y:=
 ⟨(hg.block B (Array.getElem?_eq_some_iff.1 h.1).1 (fun e=>by injection e with e;exact h1 e)).trans h.1,(hg.block C (Array.getElem?_eq_some_iff.1 h.2.1).1 (fun e=>by injection e with e;exact h2 e)).trans h.2.1,(World.cell?_of_block (a:=⟨bq,oq,none⟩) (hg.block bq hq (fun e=>by injection e with e;exact h3 e))).trans h.2.2⟩
theorem Yin {P:Program}{o:Oper}{a:Act}{w:World}{K:Act→World→Prop}{Q:Exit→Act→World→Prop}(ty:TypeId)(x y:Operand)(ho:o.op=.store ty x y)
  (b:Nat)(Z old:Array Value)(hx:a.eval x=.pointer (some ⟨b,0,none⟩))(hy:a.eval y=.agg Z)(T:TypeId)(hg:w.heap[b]? =some (.cells old T (0,0)))(hi:(P.info? ty).map (·.size)=some Z.size)(hs:old.size=Z.size)(h1:Z.all (·.oneCell')=true)
  (h:∀w',w'.heap[b]? =some (.cells Z T (0,0))→w.grownBy w' (some b)→K (a.put o.dst undef) w'):o.wp P a w K Q:=
 wp_store_row ty x y ho b Z hx hy T old hg hi hs h1 (h _ (setRow_heap w b old Z T (0,0) hg) ⟨rfl,rfl,rfl,by simp,fun k _ hk=>setRow_other w b k _ (by intro e;exact hk (by rw[e]))⟩)
theorem Yvu {w:World}{c:Cel}{vs:List Value}(h:Yrh w c vs)(hc:∀k,k<6→(c.ev k).length≤1048576):∃(p:Nat→Option Addr) (cap:Nat→Nat),vs=Ybp c (fun i=>.slice (p i) (c.ev i).length (cap i))∧Yeb w c p (fun i=>(c.ev i).length):=by
 obtain⟨p,cap,h1,-,h3⟩:=h;exact⟨p,cap,h1,fun i hi=>⟨rfl,hc i hi,(h3 i hi).2⟩⟩
set_option maxRecDepth 1000000 in
set_option maxHeartbeats 8000000 in
theorem Ys0 (k:Int)(v:Nat→Value)(n:Nat→Nat)(f:Nat→Nat→Int)(S:ShP)(p b q:Option Addr)(ca cb cq:Nat)(w:World)(h:Ygh w v n f)(hn:S.rows.length≤maxLen)(hr:Ydh w b S.rows)(hq:Yde w q (Yih S.hd.quant S.rows))(hc:∀c∈Yaw S,∀k,k<6→(c.ev k).length≤1048576)
  (hT:Yfd w)(hS:Ybh w)(hP:Ybt w)(hD:Yck w)(hE:Yf2 k n S=0):
  Calls Tryz.prog 17 #[.agg (frA k v),.agg (Yaz S.hd (.slice p S.hd.supp.length ca) (.slice b S.rows.length cb) S.zeros).toArray,.slice q (Yaw S).length cq] w fun e w'=>
   ∃v' g',e=.returned (.tuple #[.agg (frA S.hd.fmt v'),.int .i64 0])∧Yb0 w' w.heap.size v' g' (siz S.hd.fmt) (Yjm k n f S (Yaw S).length)∧Below w.heap.size w w':=by
 obtain⟨hk,hcm,hql⟩:=Yet hE;unfold maxLen at hn;have hmost:=Yds S.hd.fmt;obtain⟨nr,hln⟩:∃nr,S.rows.length=nr:=⟨_,rfl⟩;rw[hln] at hn ⊢;obtain⟨zs,hZ⟩:∃zs,Yaz S.hd (.slice p S.hd.supp.length ca) (.slice b nr cb) S.zeros=zs:=⟨_,rfl⟩;have z2:zs[2]? =some (.int .i64 S.hd.fmt):=by rw[←hZ];rfl
 have z6:zs[6]? =some (.slice b nr cb):=by rw[←hZ];rfl
 rw[hZ];obtain⟨B,wA,wB,wC,hB,hwA,hwB,hwC,hzA,hzB,hzC,hC0,hC1,hC2,hbC⟩:=Yic w (.cells (frA k v) 25 (0,0)) (.cells zs.toArray 29 (0,0)) (.cells (frA 0 Ycc) 25 (0,0));have hup:∀x,Below (B+3) wC x→Below w.heap.size w x:=fun x hx=>hB▸hbC.trans (hx.mono (by omega));have CO:=Yy7 S.hd.fmt wC hk;rw[hzC] at CO
 have CR:=Lib.hid (fun(m:Nat) (hm:m<(Yaw S).length) (p:Nat→Option Addr) (nn kk:Nat→Nat) (x:World) (hx:Below (B+3) wC x) (hi:Yeb x (Yjk S m) p nn)=>(by
  have h1:=Yqi k v n f (m:Int) (Yjk S m) p nn kk (Yrm S m) x (h.below (hup x hx)) hi (hT.below (hup x hx)) (hS.below (hup x hx)) (hP.below (hup x hx)) (hD.below (hup x hx));unfold Yeo at h1;rw[(Ymi (f:=f) hE hm).1] at h1
  exact h1:Calls Tryz.prog 30 #[.agg (frA k v),.int .i64 (m:Int),.agg (Ybp (Yjk S m) fun i=>.slice (p i) (nn i) (kk i)).toArray,.int .i64 (Yrm S m)] x fun e y=>e=.returned (.tuple #[.agg (arn 384 (Ym7 k n f S m)),.int .i64 0])∧Below x.heap.size x y))
 have CL:=Lib.hid (fun(m:Nat) (hm:m<(Yaw S).length) (C:Nat) (vc:Nat→Value) (gc:Nat→Nat) (x:World) (hx:Yjx x (B+3) C S.hd.fmt vc gc (Yjm k n f S m))=>Ywb S.hd.fmt C (B+3) vc gc (Yjm k n f S m) m (Ym7 k n f S m) x hx.there hx.own hx.far (by rw[←hcm];exact hm))
 have CF:=Lib.hid (fun(C:Nat) (vc:Nat→Value) (gc:Nat→Nat) (F:Nat→Nat→Int) (x:World) (hx:Yjx x (B+3) C S.hd.fmt vc gc F)=>Yp0 S.hd.fmt (B+3) C vc gc F x hk hx);have GN:Hid (∀m:Nat,Yjm k n f S (m+1)=Yid S.hd.fmt m (Ym7 k n f S m) (Yjm k n f S m) 384):=Lib.hid fun _=>rfl;have G0:Hid (Yjm k n f S 0=fun _ _=>0):=Lib.hid rfl
 have C0:=Lib.hid (fun(x:World) (hx:Below (B+3) wC x)=>((hx.block B (by omega)).trans hC0:x.heap[B]? =some (.cells (frA k v) 25 (0,0))));have K2:=Lib.hid (fun(x:World) (hx:Below (B+3) wC x)=>(Yac ((hx.block (B+1) (by omega)).trans hC1) z2:x.cell? ⟨B+1,2,none⟩=some (.int .i64 S.hd.fmt)))
 have K6:=Lib.hid (fun(x:World) (hx:Below (B+3) wC x)=>(Yac ((hx.block (B+1) (by omega)).trans hC1) z6:x.cell? ⟨B+1,6,none⟩=some (.slice b nr cb)));have R2:=Lib.hid (fun(x:World) (hx:Below (B+3) wC x)=>((hx.block (B+2) (by omega)).trans hC2:x.heap[B+2]? =some (.cells (frA 0 Ycc) 25 (0,0))));have UP:=Lib.hid hup;have HSX:=Ya0 Ybf k v;have SIZ:=Lib.hid (fun(g:Nat→Int)=>Yb6 g)
 have ONE:=Lib.hid (fun(g:Nat→Int)=>Ybz 384 g);have S384:=Lib.hid (fun(g:Nat→Int)=>Yar 384 g);have SOM:=Lib.hid (fun p=>Yby hk p);have hz0:=Yek;have hFz:∀w,(zeroValue 25).run Tryz.prog w=.ok (.agg (frA 0 Ycc)) w:=Yf9;have HYF:(frA 0 Ycc).size=4:=rfl;have hY0:(arn 384 fun _=>0).size=384:=Yar _ _;obtain⟨Yr,HYRS,hzr⟩:=Yfw;obtain⟨Yc,HYS,hzv⟩:=Yef;have HK:=Lib.hid hk;have HR:=Lib.hid hr
 have HQ:=Lib.hid hq;have QL:=Lib.hid hql;have NR:=Lib.hid hln;have HCC:=Lib.hid hc;have CAT:=Lib.hid (fun i j (hi:i<S.rows.length) hj=>Yze (S:=S) (i:=i) (j:=j) hi hj);have LEN:=Lib.hid (fun i (hi:i<S.rows.length)=>Ysb (S:=S) hi);have ALL:=Lib.hid (congrArg List.length (Ysa S hln));have hN:(Yaw S).length≤6336:=by rw[hcm];exact hmost
 obtain⟨N,hNN⟩:∃N,(Yaw S).length=N:=⟨_,rfl⟩;rw[hNN] at CR CL hN QL CAT ALL ⊢;generalize hXX:frA k v=X at *;generalize hYY:frA 0 Ycc=YF at *;generalize (arn 384 fun _=>0)=Y at *;obtain⟨K,hKK⟩:∃K,S.hd.fmt=K:=⟨_,rfl⟩;rw[hKK] at CO CL CF GN K2 SOM HK ⊢;have HWA:=Lib.hid hwA;have HWB:=Lib.hid hwB;have HWC:=Lib.hid hwC;have HB:=Lib.hid hB;have HBC:=Lib.hid hbC;have HZC:=Lib.hid hzC
 have hS0:Below (B+3) wC wC:=Below.refl _ _;clear hwA hwB hwC hB hzA hzB hzC hC0 hC1 hC2 hbC hup z2 z6 hZ hln hcm hql hmost hk hc hr hq h hT hS hP hD hE hNN hKK hXX hYY
 go_enter Tryz.func17,Tryz.ntmps17
 go_wp2_with fail
 rw[HWA.out,HB.out,HWB.out,HWC.out];have ck1:=K2.out wC hS0
 go_step3
 go_wp2_with fail
 refine CO.mono ?_;rintro e x ⟨C,vc,gc,rfl,hcan,hbx⟩;obtain⟨P,x1,hP,hx1,hs1,M1⟩:=Yke hbx (by have:=HZC.out;omega) Y;have hbx1:Below x.heap.size x x1:=by rw[←hx1];exact(Below.refl _ x).alloc (Nat.le_refl _) _
 have A0:=Lib.hid (⟨(hcan.below HK.out hbx1),⟨Y,hY0,M1.cell⟩,M1.low,by omega,fun p hp=>by rw[←hP];exact(hcan.own.pl p hp).lt (SOM.out p),by rw[←hP];exact(Array.getElem?_eq_some_iff.1 hcan.there).1⟩:Yoc (B+3) C P wC K vc gc (fun _ _=>0) x1);rw[←G0.out] at A0;have k6:=K6.out x1 M1.low;rw[←hx1] at k6;have HX1:=Lib.hid hx1;have HPP:=Lib.hid hP;clear hcan hbx hx1 hP hs1 M1 hbx1 ck1 CO
 go_wp2
 go_step3
 go_wp2
 rw[HX1.out,HPP.out];clear k6
 go_loopw [9,11,25] (fun er nn t wr=>∃i:Nat,t=.int .i64 (i:Int)∧i≤nr∧er=.int .i64 0∧nn=.int .i64 (((Yd9 S i).length:Nat):Int)∧Hid (Yoc (B+3) C P wC K vc gc (Yjm k n f S (Yd9 S i).length) wr)) (fun _ _ t _=>nr-(RowKit.intOf t).toNat)
 case atStart=>exact⟨0,rfl,Nat.zero_le _,rfl,rfl,A0⟩
 case round=>
  clear A0;obtain⟨i,rfl,hi,rfl,rfl,hA⟩:=hrel;by_cases hlt:i<nr
  ·have t1:decide ((i:Int)<(nr:Int))=true:=by simp;omega
   have hbw:=UP.out _ hA.out.low;obtain⟨b1,o1,rfl,hb1,hc1⟩:=Ykq HR.out (by rw[NR.out];omega);have hil:i<S.rows.length:=by rw[NR.out];exact hlt
   obtain⟨r,cap,hq,hml,hcel,hat⟩:=hc1 i hil;unfold maxLen at hml;obtain⟨rs,hrs⟩:∃rs,[Value.bool S.rows[i].head,.int .i64 S.rows[i].id,.int .i64 S.rows[i].quant,.slice r S.rows[i].cels.length cap]=rs:=⟨_,rfl⟩;have r3:rs[3]? =some (.slice r S.rows[i].cels.length cap):=by rw[←hrs];rfl
   have rl:rs.length=4:=by rw[←hrs];rfl
   have ro:rs.toArray.all (·.oneCell')=true:=by rw[←hrs];simp[Value.oneCell']
   have hrg:wr.rangeAt b1 (o1+i*4) rs:=fun k v hk=>by
    obtain⟨a0,a1,a2,a3⟩:=hat wr hbw;rw[←hrs] at hk
    match k,hk with
    |0,hk=>injection hk with hk;subst hk;exact a0
    |1,hk=>injection hk with hk;subst hk;exact a1
    |2,hk=>injection hk with hk;subst hk;exact a2
    |3,hk=>injection hk with hk;subst hk;exact a3
   have HSR:(Tryz.prog.info? 42).map (·.size)=some rs.toArray.size:=by rw[show rs.toArray.size=4 from rl];kernel_rfl
   have HYR:Yr.size=rs.toArray.size:=by rw[HYRS];exact rl.symm
   have CT:=Lib.hid (fun j (hj:j<S.rows[i].cels.length)=>CAT.out i j hil hj);have LN:=Lib.hid (LEN.out i hil);have CEV:=Lib.hid (fun j (hj:j<S.rows[i].cels.length)=>HCC.out _ (List.mem_flatMap.2 ⟨S.rows[i],List.getElem_mem hil,List.getElem_mem hj⟩:S.rows[i].cels[j]∈Yaw S));clear hat hc1 hrs;obtain⟨L,hL⟩:∃L,(Yd9 S i).length=L:=⟨_,rfl⟩;rw[hL] at hA CT LN ⊢;generalize S.rows[i].cels=m at *;clear hL
   obtain⟨R,hR⟩:∃R,wr.heap.size=R:=⟨_,rfl⟩;obtain⟨wR,hwR⟩:∃wR,wr.alloc (.cells rs.toArray 42 (0,0))=wR:=⟨_,rfl⟩;have hhR:wR.heap[R]? =some (.cells rs.toArray 42 (0,0)):=by rw[←hwR,←hR];exact heap_alloc_new wr _
   have hbR:Below wr.heap.size wr wR:=by rw[←hwR];exact(Below.refl _ wr).alloc (Nat.le_refl _) _
   have A1:=Lib.hid (hA.out.below HK.out hbR);have k3:wR.cell? ⟨R,3,none⟩=some (.slice r m.length cap):=Yac hhR r3;have HWR:=Lib.hid hwR;have HRR:=Lib.hid hR;have HCEL:=Lib.hid hcel;clear hwR hbR hA hbw hcel r3 hR hhR
   go_wp2_with (first|(with_reducible refine Ydr rfl _ rfl b1 (o1+i*4) rfl rs hrg rl ?_)|(with_reducible refine Yaf rfl 42 _ _ rfl rs.toArray Yr 42 rfl rfl HSR HYR ro ?_;rw[HWR.out,HRR.out]))
   clear k3 hrg HSR HYR ro rl
   go_loopw [9,11,32] (fun er nn t wr=>∃j:Nat,t=.int .i64 (j:Int)∧j≤m.length∧er=.int .i64 0∧nn=.int .i64 ((L+j:Nat):Int)∧Hid (Yoc (B+3) C P wC K vc gc (Yjm k n f S (L+j)) wr)) (fun _ _ t _=>m.length-(RowKit.intOf t).toNat)
   case atStart=>exact⟨0,rfl,Nat.zero_le _,rfl,rfl,A1⟩
   case round=>
    clear A1;obtain⟨j,rfl,hj,rfl,rfl,hA⟩:=hrel;by_cases hjm:j<m.length
    ·have t2:decide ((j:Int)<(m.length:Int))=true:=by simp;omega
     have hml2:m.length≤9223372036854775807:=by omega
     have hbw:=UP.out _ hA.out.low;obtain⟨b2,o2,rfl,hb2,hcv⟩:=Ydf.each HCEL.out (by omega);obtain⟨vs,hV,hvc⟩:=hcv j hjm;have hl18:=hV.shape.1;have hone:=Yei hV;have hrg:wr.rangeAt b2 (o2+j*18) vs:=fun k v hk=>hvc wr hbw k v hk;obtain⟨E1,E2⟩:=CT.out j hjm;obtain⟨p3,cap3,hvs,hci⟩:=Yvu hV (CEV.out j hjm);rw[←E1] at hvs hci;obtain⟨M,hM⟩:∃M,L+j=M:=⟨_,rfl⟩;rw[hM] at hA E1 E2 hvs hci ⊢
     have HM:=Lib.hid hM;obtain⟨bq,oq,rfl,hbq,hqc⟩:=HQ.out.hold (by rw[QL.out];omega);have cr:=CR.out M E2 p3 (fun i=>((Yjk S M).ev i).length) cap3;rw[←hvs] at cr;obtain⟨D,hD⟩:∃D,wr.heap.size=D:=⟨_,rfl⟩;obtain⟨wD,hwD⟩:∃wD,wr.alloc (.cells vs.toArray 48 (0,0))=wD:=⟨_,rfl⟩;have hhD:wD.heap[D]? =some (.cells vs.toArray 48 (0,0)):=by rw[←hwD,←hD];exact heap_alloc_new wr _
     have hbD:Below wr.heap.size wr wD:=by rw[←hwD];exact(Below.refl _ wr).alloc (Nat.le_refl _) _
     have A2:=hA.out.below HK.out hbD;have lowD:=A2.low;have hqz:bq<B:=by rw[←HB.out];exact hbq
     have hzD:B+3≤wD.heap.size:=A2.base.2;have hPD:P<D:=by rw[←hD];exact hA.out.size
     have hBP:=A2.base.1;have ld:Yxv B D bq (oq+M) X vs.toArray (.int .i64 (Yrm S M)) wD:=⟨C0.out wD lowD,hhD,hqc wD (UP.out _ lowD) M (by rw[QL.out];exact E2)⟩;have HSV:(Tryz.prog.info? 48).map (·.size)=some vs.toArray.size:=by rw[show vs.toArray.size=18 from hl18];kernel_rfl
     have HYV:Yc.size=vs.toArray.size:=by rw[HYS];exact hl18.symm
     have CI:=Lib.hid (fun(x:World) (hx:Below wD.heap.size wD x)=>cr x (lowD.trans (hx.mono hzD)) (hci.below (UP.out x (lowD.trans (hx.mono hzD)))));have cl:=CL.out M E2 C vc gc;have gn:=Lib.hid (GN.out M);have HSU:=SIZ.out (Ym7 k n f S M);have HOU:=ONE.out (Ym7 k n f S M);have SU:=S384.out (Ym7 k n f S M);have SUH:=Lib.hid SU;generalize hU:arn 384 (Ym7 k n f S M)=U at CI cl HSU HOU SU SUH
     clear hU;have ml2:M<N:=E2;have mlN:N≤9223372036854775807:=by omega
     have HDD:=Lib.hid hD;have HWD:=Lib.hid hwD;have A2H:=Lib.hid A2;have LDH:=Lib.hid ld;have PDH:=Lib.hid hPD;have BPH:=Lib.hid hBP;have QZH:=Lib.hid hqz;have ZDH:=Lib.hid hzD;generalize Yrm S M=qm at *;clear hD hwD hbD A2 hvs hci cr hcv hvc hqc hV hA hbw lowD ld hPD hBP hqz hzD hhD hM E1 E2
     go_wp2_with (first|(with_reducible refine Yci rfl _ rfl b2 (o2+j*18) rfl vs hrg hl18 ?_)|(with_reducible refine Yaf rfl 48 _ _ rfl vs.toArray Yc 48 rfl rfl HSV HYV hone ?_;rw[HWD.out,HDD.out]))
     have hqD:bq<wD.heap.size:=by have:=ZDH.out;have:=QZH.out;omega
     refine wp_region_held_drew (S:=Yxv B D bq (oq+M) X vs.toArray (.int .i64 qm)) (by kernel_rfl) (LDH.out.below hqD (Below.refl _ wD).drew) (fun hH=>?_)
     refine Yaj 0 (some 37) (v:=.agg X) rfl rfl (by kernel_rfl) (by kernel_rfl) (by kernel_rfl) (fun _ _ _ h=>h) hH (Or.inl ⟨by kernel_rfl,fun x hx=>Ya8 (ty:=25) (x:=.tmp 3) (ad:=⟨B,0,none⟩) (by kernel_rfl) (by kernel_rfl) (run_loadVar_row x B _ _ X (0,0) _ hx.1 Tryz.underlying25 rfl HSX)⟩) ?_
     try simp only[Yaa]
     refine Yal 1 (some 38) hH ?_
     try simp only[Yaa]
     refine Yaj 2 (some 39) (v:=.agg vs.toArray) rfl rfl (by kernel_rfl) (by kernel_rfl) (by kernel_rfl) (fun _ _ _ h=>h) hH (Or.inl ⟨by kernel_rfl,fun x hx=>Ya8 (ty:=48) (x:=.tmp 15) (ad:=⟨D,0,none⟩) (by kernel_rfl) (by kernel_rfl) (run_loadVar_row x D _ _ vs.toArray (0,0) _ hx.2.1 Tryz.underlying48 rfl HSV)⟩) ?_
     try simp only[Yaa]
     refine Yal 3 (some 40) hH ?_
     try simp only[Yaa]
     refine Yal 4 (some 41) hH ?_
     try simp only[Yaa]
     refine Yb9 5 (some 42) (v:=.pointer (some ⟨bq,oq+M,none⟩)) rfl rfl hH (by kernel_rfl) (fun x _=>by go_simp;try with_reducible rfl) ?_
     try simp only[Yaa]
     refine Yb9 6 (some 43) (v:=.int .i64 qm) rfl rfl hH (by kernel_rfl) (fun x hx=>by have c0:=hx.2.2;go_simp) ?_
     try simp only[Yaa]
     refine wpAnyH_ready (rs:=[7]) (by kernel_rfl) (by simp) ?_;refine AllReadyH.cons rfl (fun K hK=>?_) AllReadyH.nil
     go_simp
     go_wp2_with fail
     refine(CI.out _ (Below.refl _ wD).drew).mono ?_;rintro e w3 ⟨rfl,hb3⟩;have hb3':Below wD.heap.size wD w3:=(Below.refl _ wD).drew.trans hb3;have A3:=A2H.out.below HK.out hb3';have ld3:=LDH.out.below hqD hb3';have hq3:bq<w3.heap.size:=by have:=hb3'.size;omega
     refine hK.out _ _ ld3 (fun hH2=>?_);clear hK K hH hb3;have hH:=hH2;clear hH2
     try simp only[Yaa]
     refine Yal 8 (some 36) hH ?_
     try simp only[Yaa]
     refine Yal 9 (some 45) hH ?_
     try simp only[Yaa]
     refine Yal 10 (some 46) hH ?_
     try simp only[Yaa]
     obtain⟨V0,hV0,hh0⟩:=A3.pat;refine wpAnyH_ready (rs:=[11]) (by kernel_rfl) (by simp) ?_;refine AllReadyH.cons rfl (fun K hK=>?_) AllReadyH.nil;refine(if_pos (by kernel_rfl)).mpr ?_;refine Yin 62 _ _ rfl P U V0 rfl rfl 62 hh0 HSU (by rw[hV0,SUH.out]) HOU ?_;intro w4 hh4 hg4;have ld4:=ld3.grown hq3 hg4 (by have:=BPH.out;omega) (by have:=PDH.out;omega) (by have:=BPH.out;have:=QZH.out;omega)
     refine hK.out _ _ ld4 (fun hH2=>?_);clear hK K hH;have hH:=hH2;clear hH2
     try simp only[Yaa]
     refine Yal 12 (some 9) hH ?_
     try simp only[Yaa]
     refine wpAnyH_done (by kernel_rfl) ?_ _;have A4:=A3.put HK.out hg4 SUH.out hh4;have cl4:=cl w4 A4.can;have A4H:=Lib.hid A4;clear hH ld3 ld4 hg4 A3 A4 hh0 hb3' hq3 hqD cl CI
     go_wp2_with (with_reducible refine wpList_load_row rfl 62 _ rfl P rfl 62 U (0,0) _ hh4 Tryz.underlying62 rfl HSU ?_)
     refine cl4.mono ?_;rintro e w5 ⟨rfl,hK5,hO5⟩;have A5:=A4H.out.lay hK5 hO5;rw[←gn.out] at A5;have A5H:=Lib.hid A5;clear A5 hK5 hO5 cl4 hh4
     go_wp2
     go_roundw
     case rel=>exact⟨j+1,by go_num,by omega,rfl,by rw[show L+(j+1)=M+1 by have:=HM.out;omega];go_num,by rw[show L+(j+1)=M+1 by have:=HM.out;omega];exact A5H⟩
     case measure=>simp[RowKit.intOf];omega
    ·obtain rfl:m.length=j:=by omega
     have t2:decide ((m.length:Int)<(m.length:Int))=false:=by simp
     rw[←LN.out] at hA ⊢
     go_wp2
     go_roundw
     case rel=>exact⟨i+1,by go_num,by omega,rfl,rfl,hA⟩
     case measure=>simp[RowKit.intOf];omega
  ·obtain rfl:nr=i:=by omega
   have t1:decide ((nr:Int)<(nr:Int))=false:=by simp
   rw[ALL.out] at hA;have cf:=CF.out C vc gc _ wr hA.out.can;have r2:=R2.out wr hA.out.low;have hzw:B+3≤wr.heap.size:=hA.out.base.2;have hup:=Lib.hid (fun(y:World) (hy:Below wr.heap.size wr y)=>UP.out y (hA.out.low.trans (hy.mono hzw)));clear hA
   go_wp2_with fail
   refine cf.mono ?_;rintro e w2 ⟨v',g',rfl,hO,hb2⟩;have d2:=(hb2.block (B+2) (by omega)).trans r2;have HSV:=Ya0 Ybf K v';have HOV:=Ycv K v' hO.ones;have HYV:YF.size=(frA K v').size:=HYF;have HO:=Lib.hid hO;have hu2:=hup.out _ hb2;have hz2:=hb2.size;obtain⟨ZF,hZF⟩:∃ZF,frA K v'=ZF:=⟨_,rfl⟩;rw[hZF] at HSV HOV HYV ⊢;have HZF:=Lib.hid hZF;clear hO hZF hb2
   go_wp2_with (with_reducible refine Yad rfl 25 _ _ rfl (B+2) ZF YF rfl rfl 25 d2 HSV HYV HOV ?_;intro w5 hh5 hg5)
   rw[Exit.noGoto_ret];refine bodyPost_ret (Yak rfl _ _ (B+2) 25 _ (0,0) _ rfl hh5 Tryz.underlying25 rfl HSV) rfl ?_;refine⟨v',g',by rw[HZF.out];rfl,?_,hu2.grown hg5 (by have:=hu2.size;omega) (fun k hk=>by injection hk with hk;have:=HB.out;omega)⟩;refine(HO.out.mono (by have:=HB.out;omega)).keep fun p hp=>hg5.block _ ((HO.out.pl p hp).lt (SOM.out p)) ?_;have:=HO.out.from_ p hp;intro e
   injection e with e;omega
structure Yod (w:World) (S:ShP) (p b:Option Addr):Prop where
 supp:S.hd.supp.length≤maxLen
 rows:S.rows.length≤1048576
 ints:Yde w p S.hd.supp
 rin:Ydh w b S.rows
 many:(Yaw S).length≤1048576
 evs:∀c∈Yaw S,∀k,k<6→(c.ev k).length≤1048576
 asks:Ycz w S.hd.inter
 t:Yfd w
 st:Ybh w
 sc:Ybt w
 dc:Yck w
theorem Yod.below {w x:World}{S:ShP}{p b:Option Addr}(h:Yod w S p b)(hb:Below w.heap.size w x):Yod x S p b:=
 ⟨h.supp,h.rows,h.ints.below hb,h.rin.below hb,h.many,h.evs,h.asks.below hb,h.t.below hb,h.st.below hb,h.sc.below hb,h.dc.below hb⟩
theorem Yod.of {w:World}{S:ShP}{p b:Option Addr}(h:Yod w S p b)(ca cb:Nat):Calls Tryz.prog 15 #[.agg (Yaz S.hd (.slice p S.hd.supp.length ca) (.slice b S.rows.length cb) S.zeros).toArray] w (Yg5 (Ynv S) (Ybe S) w):=
 Yqf S p b ca cb w h.supp h.rows h.ints h.rin h.many h.evs h.asks
def Yfg (K:Int)(F:Nat→Nat→Int)(w:World)(e:Ending)(w':World):Prop:=
 ∃v' g',e=.returned (.tuple #[.agg (frA K v'),.int .i64 0])∧Yb0 w' w.heap.size v' g' (siz K) F∧Below w.heap.size w w'
set_option maxRecDepth 1000000 in
set_option maxHeartbeats 8000000 in
theorem Yd5 (k:Int)(v:Nat→Value)(n:Nat→Nat)(f:Nat→Nat→Int)(S:ShP)(p b:Option Addr)(ca cb:Nat)(w:World)(h:Ygh w v n f)(hI:Yod w S p b):
  (Yf2 k n S≠0→Calls Tryz.prog 8 #[.agg (frA k v),.agg (Yaz S.hd (.slice p S.hd.supp.length ca) (.slice b S.rows.length cb) S.zeros).toArray] w fun e w'=>e=.returned (.tuple #[.agg (frA 0 Ycc),.int .i64 (Yf2 k n S)])∧Below w.heap.size w w')∧
  (Yf2 k n S=0→Calls Tryz.prog 8 #[.agg (frA k v),.agg (Yaz S.hd (.slice p S.hd.supp.length ca) (.slice b S.rows.length cb) S.zeros).toArray] w (Yfg S.hd.fmt (Yjm k n f S (Yaw S).length) w)):=by
 have CO0:=fun x hx=>(hI.below hx).of ca cb (w:=x);have LD0:=fun(hE:Yf2 k n S=0) x hx q cq hq=>Ys0 k v n f S p b q ca cb cq x (h.below hx) (by have:=hI.rows;unfold maxLen;omega) (hI.rin.below hx) hq hI.evs (hI.t.below hx) (hI.st.below hx) (hI.sc.below hx) (hI.dc.below hx) hE;obtain⟨zs,hZ⟩:∃zs,Yaz S.hd (.slice p S.hd.supp.length ca) (.slice b S.rows.length cb) S.zeros=zs:=⟨_,rfl⟩
 have z2:zs[2]? =some (.int .i64 S.hd.fmt):=by rw[←hZ];rfl
 have z3:zs[3]? =some (.bool S.hd.inter):=by rw[←hZ];rfl
 have HSZ:(Tryz.prog.info? 29).map (·.size)=some zs.toArray.size:=by rw[show zs.toArray.size=8 by rw[←hZ];rfl];kernel_rfl
 rw[hZ] at CO0 LD0 ⊢;obtain⟨B,wA,wB,wC,hB,hwA,hwB,hwC,hzA,hzB,hzC,hC0,hC1,hC2,hbC⟩:=Yic w (.cells (frA k v) 25 (0,0)) (.cells zs.toArray 29 (0,0)) (.cells (frA 0 Ycc) 25 (0,0));have hup:∀x,Below (B+3) wC x→Below w.heap.size w x:=fun x hx=>hB▸hbC.trans (hx.mono (by omega));have UP:=Lib.hid hup
 have C0:=Lib.hid (fun(x:World) (hx:Below (B+3) wC x)=>((hx.block B (by omega)).trans hC0:x.heap[B]? =some (.cells (frA k v) 25 (0,0))));have C1:=Lib.hid (fun(x:World) (hx:Below (B+3) wC x)=>((hx.block (B+1) (by omega)).trans hC1:x.heap[B+1]? =some (.cells zs.toArray 29 (0,0))))
 have K2:=Lib.hid (fun(x:World) (hx:Below (B+3) wC x)=>(Yac ((hx.block (B+1) (by omega)).trans hC1) z2:x.cell? ⟨B+1,2,none⟩=some (.int .i64 S.hd.fmt)));have K3:=Lib.hid (fun(x:World) (hx:Below (B+3) wC x)=>(Yac ((hx.block (B+1) (by omega)).trans hC1) z3:x.cell? ⟨B+1,3,none⟩=some (.bool S.hd.inter)))
 have R2:=Lib.hid (fun(x:World) (hx:Below (B+3) wC x)=>((hx.block (B+2) (by omega)).trans hC2:x.heap[B+2]? =some (.cells (frA 0 Ycc) 25 (0,0))));have HSX:=Ya0 Ybf k v;have HSN:=Ya0 Ybf 0 Ycc;have HON:=Ycv 0 Ycc (fun _ _=>rfl);have hFz:∀w,(zeroValue 25).run Tryz.prog w=.ok (.agg (frA 0 Ycc)) w:=Yf9;have CO:=CO0 wC (hup wC (Below.refl _ _))
 have LD:=Lib.hid (fun hE (x:World) (hx:Below (B+3) wC x)=>LD0 hE x (hup x hx));have AH:=Lib.hid (fun(x:World)=>Ypg k S.hd.fmt v n x h.slices);have QL:=Lib.hid (fun(hE:Yf2 k n S=0)=>(Yet hE).2.2);have HYF:(frA 0 Ycc).size=4:=rfl;have SOM:=Lib.hid (fun(hE:Yf2 k n S=0) (p:Nat)=>Yby (Yet hE).1 p);unfold Yg5 at CO;rw[hzC] at CO;have h1:=hC1;have HWA:=Lib.hid hwA;have HWB:=Lib.hid hwB
 have HWC:=Lib.hid hwC;have HB:=Lib.hid hB;have HZC:=Lib.hid hzC;generalize frA k v=X at *;clear hwA hwB hwC hB hC0 hC1 hC2 hzA hzB hzC hbC hup CO0 LD0 z2 z3 hZ h hI;by_cases h0:Ybe S=0
 case neg=>
  refine⟨fun _=>?_,fun hE=>absurd (Yhy hE).1 h0⟩;rw[Yxa h0];generalize Ybe S=E at *;have t1:(E != 0)=true:=by simpa [bne] using h0
  clear h0 LD AH QL SOM K2 K3
  go_enter Tryz.func8,Tryz.ntmps8
  go_wp2_with (rw[HWA.out,HB.out,HWB.out,HWC.out];with_reducible refine wpList_load_row rfl 29 _ rfl (B+1) rfl 29 zs.toArray (0,0) _ h1 Tryz.underlying29 rfl HSZ ?_)
  refine CO.mono ?_;rintro e x1 ⟨vq,rfl,-,hb1⟩;have r2:=R2.out _ hb1;have hu:=UP.out _ hb1;clear CO h1
  go_wp2_with (refine Yad rfl 25 _ _ rfl (B+2) (frA 0 Ycc) (frA 0 Ycc) rfl rfl 25 r2 HSN rfl HON ?_;intro w5 hh5 hg5)
  refine bodyPost_ret (Yak rfl _ _ (B+2) 25 _ (0,0) _ rfl hh5 Tryz.underlying25 rfl HSN) rfl ?_;exact⟨rfl,hu.grown hg5 (by have:=hu.size;omega) (fun k hk=>by injection hk with hk;have:=HB.out;omega)⟩
 rw[h0,Yo5 h0] at CO;have HH0:=Lib.hid h0;obtain⟨inter,hin⟩:∃i,S.hd.inter=i:=⟨_,rfl⟩;obtain⟨ah,hah⟩:∃i,Yec k n S.hd.fmt=i:=⟨_,rfl⟩;rw[hin] at K3;rw[hah] at AH;have hgo:inter=false∨ah=true∨(inter=true∧ah=false):=by cases inter <;> cases ah <;> simp
 have EN:=Lib.hid (fun(hi:inter=true) (ha:ah=false)=>Yqu h0 (hin.trans hi) (hah.trans ha));have EI:=Lib.hid (fun(hi:inter=false)=>Yqv (k:=k) (n:=n) h0 (hin.trans hi));have EA:=Lib.hid (fun(ha:ah=true)=>Yjl h0 (hah.trans ha));generalize S.hd.fmt=K at *;clear hin hah h0;by_cases hF:inter=true∧ah=false
 case pos=>
  obtain⟨rfl,rfl⟩:=hF;have e11:=EN.out rfl rfl;refine⟨fun _=>?_,fun hE=>absurd (hE.symm.trans e11) (by decide)⟩;rw[e11];clear e11 EN EI EA QL SOM LD
  go_enter Tryz.func8,Tryz.ntmps8
  go_wp2_with (rw[HWA.out,HB.out,HWB.out,HWC.out];with_reducible refine wpList_load_row rfl 29 _ rfl (B+1) rfl 29 zs.toArray (0,0) _ h1 Tryz.underlying29 rfl HSZ ?_)
  refine CO.mono ?_;rintro e x1 ⟨vq,rfl,-,hb1⟩;have k2:=K2.out _ hb1;have k3:=K3.out _ hb1;have c0:=C0.out _ hb1;clear CO h1
  go_wp2_with (with_reducible refine Yah (by kernel_rfl) 25 _ rfl B rfl 25 X (0,0) _ c0 Tryz.underlying25 rfl HSX ?_)
  refine(AH.out _).mono ?_;rintro e x2 ⟨rfl,hb2⟩;have hb12:=hb1.trans (hb2.mono (by have:=hb1.size;have:=HZC.out;omega));have r2:=R2.out _ hb12;have hu:=UP.out _ hb12;have hz:=hb12.size;rw[HZC.out] at hz;clear hb12 hb1 hb2 c0 k2 k3
  go_wp2_with (refine Yad rfl 25 _ _ rfl (B+2) (frA 0 Ycc) (frA 0 Ycc) rfl rfl 25 r2 HSN rfl HON ?_;intro w5 hh5 hg5)
  refine bodyPost_ret (Yak rfl _ _ (B+2) 25 _ (0,0) _ rfl hh5 Tryz.underlying25 rfl HSN) rfl ?_;exact⟨rfl,hu.grown hg5 (by have:=hu.size;omega) (fun k hk=>by injection hk with hk;have:=HB.out;omega)⟩
 have hE:Yf2 k n S=0:=by
  cases inter with
  |false=>exact EI.out rfl
  |true=>
   cases ah with
   |true=>exact EA.out rfl
   |false=>exact absurd ⟨rfl,rfl⟩ hF
 refine⟨fun h=>absurd hE h,fun _=>?_⟩;have HE:=Lib.hid hE;have hql:=QL.out hE;clear hE EN EI EA QL hgo;cases inter with
 |false=>
  go_enter Tryz.func8,Tryz.ntmps8
  go_wp2_with (rw[HWA.out,HB.out,HWB.out,HWC.out];with_reducible refine wpList_load_row rfl 29 _ rfl (B+1) rfl 29 zs.toArray (0,0) _ h1 Tryz.underlying29 rfl HSZ ?_)
  refine CO.mono ?_;rintro e x1 ⟨vq,rfl,ho,hb1⟩;rw[hql] at ho;obtain⟨q,cap,rfl,hi⟩:=Yoy hql ho;have k3:=K3.out _ hb1;clear ho hF h1 hql AH;have c0:=C0.out _ hb1;have c1:=C1.out _ hb1;have ld:=LD.out HE.out _ hb1 q cap hi;have hu:=Lib.hid (fun(y:World) (hy:Below x1.heap.size x1 y)=>UP.out y (hb1.trans (hy.mono (by have:=hb1.size;have:=HZC.out;omega))));have r2:=R2.out _ hb1;have hz:=hb1.size
  rw[HZC.out] at hz;clear hb1 hi CO
  go_wp2_with (first|(with_reducible refine wpList_load_row rfl 25 _ rfl B rfl 25 X (0,0) _ c0 Tryz.underlying25 rfl HSX ?_)|(with_reducible refine wpList_load_row rfl 29 _ rfl (B+1) rfl 29 zs.toArray (0,0) _ c1 Tryz.underlying29 rfl HSZ ?_))
  refine ld.mono ?_;rintro e y ⟨v',g',rfl,hO,hby⟩;have d2:=(hby.block (B+2) (by omega)).trans r2;have hu2:=hu.out _ hby
  have hz2:=hby.size;have HSV:=Ya0 Ybf K v';have HOV:=Ycv K v' hO.ones;have HYV:(frA 0 Ycc).size=(frA K v').size:=rfl;have HO:=Lib.hid hO;obtain⟨ZF,hZF⟩:∃ZF,frA K v'=ZF:=⟨_,rfl⟩;rw[hZF] at HSV HOV HYV ⊢;have HZF:=Lib.hid hZF;clear hO hZF hby ld c0 c1 r2
  go_wp2_with (refine Yad rfl 25 _ _ rfl (B+2) ZF (frA 0 Ycc) rfl rfl 25 d2 HSV HYV HOV ?_;intro w5 hh5 hg5)
  refine bodyPost_ret (Yak rfl _ _ (B+2) 25 _ (0,0) _ rfl hh5 Tryz.underlying25 rfl HSV) rfl ?_;refine⟨v',g',by rw[HZF.out];rfl,?_,hu2.grown hg5 (by have:=hu2.size;omega) (fun k hk=>by injection hk with hk;have:=HB.out;omega)⟩;refine(HO.out.mono (by have:=HB.out;omega)).keep fun p hp=>hg5.block _ ((HO.out.pl p hp).lt (SOM.out HE.out p)) ?_;have:=HO.out.from_ p hp;intro e;injection e with e;omega
 |true=>
  obtain rfl:ah=true:=by
   cases ah with
   |true=>rfl
   |false=>exact absurd ⟨rfl,rfl⟩ hF
  go_enter Tryz.func8,Tryz.ntmps8
  go_wp2_with (rw[HWA.out,HB.out,HWB.out,HWC.out];with_reducible refine wpList_load_row rfl 29 _ rfl (B+1) rfl 29 zs.toArray (0,0) _ h1 Tryz.underlying29 rfl HSZ ?_)
  refine CO.mono ?_;rintro e x1 ⟨vq,rfl,ho,hb1⟩;rw[hql] at ho;obtain⟨q,cap,rfl,hi1⟩:=Yoy hql ho;have k2:=K2.out _ hb1;have k3:=K3.out _ hb1;have c0:=C0.out _ hb1;clear ho hF h1 hql
  go_wp2_with (with_reducible refine Yah (by kernel_rfl) 25 _ rfl B rfl 25 X (0,0) _ c0 Tryz.underlying25 rfl HSX ?_)
  refine(AH.out _).mono ?_;rintro e x2 ⟨rfl,hb2⟩;have hb12:=hb1.trans (hb2.mono (by have:=hb1.size;have:=HZC.out;omega));have hi:=hi1.below hb2;clear hb1 hb2 c0 k2 k3 hi1 AH;have c0:=C0.out _ hb12;have c1:=C1.out _ hb12;have ld:=LD.out HE.out _ hb12 q cap hi;have hu:=Lib.hid (fun(y:World) (hy:Below x2.heap.size x2 y)=>UP.out y (hb12.trans (hy.mono (by have:=hb12.size;have:=HZC.out;omega))))
  have r2:=R2.out _ hb12;have hz:=hb12.size;rw[HZC.out] at hz;clear hb12 hi CO
  go_wp2_with (first|(with_reducible refine wpList_load_row rfl 25 _ rfl B rfl 25 X (0,0) _ c0 Tryz.underlying25 rfl HSX ?_)|(with_reducible refine wpList_load_row rfl 29 _ rfl (B+1) rfl 29 zs.toArray (0,0) _ c1 Tryz.underlying29 rfl HSZ ?_))
  refine ld.mono ?_;rintro e y ⟨v',g',rfl,hO,hby⟩;have d2:=(hby.block (B+2) (by omega)).trans r2;have hu2:=hu.out _ hby
  have hz2:=hby.size;have HSV:=Ya0 Ybf K v';have HOV:=Ycv K v' hO.ones;have HYV:(frA 0 Ycc).size=(frA K v').size:=rfl;have HO:=Lib.hid hO;obtain⟨ZF,hZF⟩:∃ZF,frA K v'=ZF:=⟨_,rfl⟩;rw[hZF] at HSV HOV HYV ⊢;have HZF:=Lib.hid hZF;clear hO hZF hby ld c0 c1 r2
  go_wp2_with (refine Yad rfl 25 _ _ rfl (B+2) ZF (frA 0 Ycc) rfl rfl 25 d2 HSV HYV HOV ?_;intro w5 hh5 hg5)
  refine bodyPost_ret (Yak rfl _ _ (B+2) 25 _ (0,0) _ rfl hh5 Tryz.underlying25 rfl HSV) rfl ?_;refine⟨v',g',by rw[HZF.out];rfl,?_,hu2.grown hg5 (by have:=hu2.size;omega) (fun k hk=>by injection hk with hk;have:=HB.out;omega)⟩;refine(HO.out.mono (by have:=HB.out;omega)).keep fun p hp=>hg5.block _ ((HO.out.pl p hp).lt (SOM.out HE.out p)) ?_;have:=HO.out.from_ p hp;intro e;injection e with e;omega
def Ymq (k:Int)(n:Nat→Nat)(f:Nat→Nat→Int)(S:ShP):Bool:=if Yf2 k n S=0 then Ygd S.hd.fmt (siz S.hd.fmt) (Yjm k n f S (Yaw S).length) k n f else false
set_option maxRecDepth 1000000 in
set_option maxHeartbeats 8000000 in
theorem Ymj (k:Int)(v:Nat→Value)(n:Nat→Nat)(f:Nat→Nat→Int)(S:ShP)(p b:Option Addr)(ca cb:Nat)(w:World)(h:Ygh w v n f)(hI:Yod w S p b):
  Calls Tryz.prog 11 #[.agg (frA k v),.agg (Yaz S.hd (.slice p S.hd.supp.length ca) (.slice b S.rows.length cb) S.zeros).toArray] w fun e w'=>e=.returned (.bool (Ymq k n f S))∧Below w.heap.size w w':=by
 have NX:=fun x hx=>Yd5 k v n f S p b ca cb x (h.below hx) (hI.below hx);obtain⟨zs,hZ⟩:∃zs,Yaz S.hd (.slice p S.hd.supp.length ca) (.slice b S.rows.length cb) S.zeros=zs:=⟨_,rfl⟩;have HSZ:(Tryz.prog.info? 29).map (·.size)=some zs.toArray.size:=by rw[show zs.toArray.size=8 by rw[←hZ];rfl];kernel_rfl
 rw[hZ] at NX ⊢;obtain⟨B,wA,wB,hB,hwA,hwB,hzA,hzB,hC0,hC1,hbC⟩:=Ygs w (.cells (frA k v) 25 (0,0)) (.cells zs.toArray 29 (0,0));have hup:∀x,Below (B+2) wB x→Below w.heap.size w x:=fun x hx=>hB▸hbC.trans (hx.mono (by omega));have UP:=Lib.hid hup;have C0:=Lib.hid (fun(x:World) (hx:Below (B+2) wB x)=>((hx.block B (by omega)).trans hC0:x.heap[B]? =some (.cells (frA k v) 25 (0,0))))
 have HSX:=Ya0 Ybf k v;have HSN:=Ya0 Ybf 0 Ycc;have HON:=Ycv 0 Ycc (fun _ _=>rfl);have hFz:∀w,(zeroValue 25).run Tryz.prog w=.ok (.agg (frA 0 Ycc)) w:=Yf9;have NB:=NX wB (hup wB (Below.refl _ _));have SM:=Lib.hid (fun(v':Nat→Value) (F:Nat→Nat→Int) (x:World) (hx:Below (B+2) wB x) (hF:Ygh x v' (siz S.hd.fmt) F)=>Yhh S.hd.fmt k v' v (siz S.hd.fmt) n F f x hF (h.below (hup x hx)))
 have SB:=Lib.hid (show Ymq k n f S=if Yf2 k n S=0 then Ygd S.hd.fmt (siz S.hd.fmt) (Yjm k n f S (Yaw S).length) k n f else false from rfl);have SOM:=Lib.hid (fun(hE:Yf2 k n S=0) (p:Nat) (_:p<3)=>Yby (Yet hE).1 p);unfold Yfg at NB;rw[hzB] at NB;have h0:=hC0;have h1:=hC1;have HWA:=Lib.hid hwA;have HWB:=Lib.hid hwB;have HB:=Lib.hid hB;have HZB:=Lib.hid hzB;generalize Ymq k n f S=R at *
 obtain⟨X,hX⟩:∃X,frA k v=X:=⟨_,rfl⟩;rw[hX] at NB SM h0 HWA C0 HSX ⊢;obtain⟨YF,hYF⟩:∃YF,frA 0 Ycc=YF:=⟨_,rfl⟩;have HYF:YF.size=4:=by rw[←hYF];rfl
 rw[hYF] at NB HSN HON hFz;generalize S.hd.fmt=K at *;generalize Yjm k n f S (Yaw S).length=G at *;generalize Yf2 k n S=E at *;clear hwA hwB hB hC0 hC1 hzA hzB hbC hup NX hZ h hI hX hYF;by_cases hE:E=0
 ·have CN:=NB.2 hE;have HE:=Lib.hid hE;rw[hE,if_pos rfl] at SB;clear NB hE
  go_enter Tryz.func11,Tryz.ntmps11
  go_wp2_with (first|(rw[HWA.out,HB.out,HWB.out];with_reducible refine wpList_load_row rfl 25 _ rfl B rfl 25 X (0,0) _ h0 Tryz.underlying25 rfl HSX ?_)|(with_reducible refine wpList_load_row rfl 29 _ rfl (B+1) rfl 29 zs.toArray (0,0) _ h1 Tryz.underlying29 rfl HSZ ?_))
  refine CN.mono ?_;rintro e x1 ⟨v',g',rfl,hO,hb1⟩;have HSV:=Ya0 Ybf K v';have HOV:=Ycv K v' hO.ones;have HYV:YF.size=(frA K v').size:=HYF;obtain⟨ZF,hZF⟩:∃ZF,frA K v'=ZF:=⟨_,rfl⟩;obtain⟨D,hD⟩:∃D,x1.heap.size=D:=⟨_,rfl⟩;obtain⟨x2,hx2⟩:∃x2,x1.alloc (.cells (frA K v') 25 (0,0))=x2:=⟨_,rfl⟩;have hb2:Below x1.heap.size x1 x2:=by rw[←hx2];exact(Below.refl _ x1).alloc (Nat.le_refl _) _
  have hh2:x2.heap[D]? =some (.cells (frA K v') 25 (0,0)):=by rw[←hx2,←hD];exact heap_alloc_new x1 _
  have hb12:Below (B+2) wB x2:=hb1.trans (hb2.mono (by have:=hb1.size;have:=HZB.out;omega));have sm:=SM.out v' G x2 hb12 ((hO.below (SOM.out HE.out) hb2).at);have c0:=C0.out x2 hb12;have hu:=Lib.hid (fun(y:World) (hy:Below x2.heap.size x2 y)=>UP.out y (hb12.trans (hy.mono (by have:=hb12.size;have:=HZB.out;omega))));rw[hZF] at HSV HOV HYV hh2 hx2 sm ⊢;have HX2:=Lib.hid hx2;have HD:=Lib.hid hD
  clear hO hZF hb2 hb12 hx2 hD hb1 CN h0 h1
  go_wp2_with (first|(with_reducible refine Yaf rfl 25 _ _ rfl ZF YF 25 rfl rfl HSV HYV HOV ?_;rw[HX2.out,HD.out])|(with_reducible refine Yah (by kernel_rfl) 25 _ rfl D rfl 25 ZF (0,0) _ hh2 Tryz.underlying25 rfl HSV ?_)|(with_reducible refine Yah (by kernel_rfl) 25 _ rfl B rfl 25 X (0,0) _ c0 Tryz.underlying25 rfl HSX ?_))
  refine sm.mono ?_;rintro e x3 ⟨rfl,hb3⟩;have hend:=hu.out _ hb3
  go_wp2
  go_ret
  exact⟨by rw[SB.out];rfl,hend⟩
 ·have CN:=NB.1 hE;have t1:(E==0)=false:=by simpa using hE
  rw[if_neg hE] at SB;clear NB hE
  go_enter Tryz.func11,Tryz.ntmps11
  go_wp2_with (first|(rw[HWA.out,HB.out,HWB.out];with_reducible refine wpList_load_row rfl 25 _ rfl B rfl 25 X (0,0) _ h0 Tryz.underlying25 rfl HSX ?_)|(with_reducible refine wpList_load_row rfl 29 _ rfl (B+1) rfl 29 zs.toArray (0,0) _ h1 Tryz.underlying29 rfl HSZ ?_))
  refine CN.mono ?_;rintro e x1 ⟨rfl,hb1⟩;obtain⟨D,hD⟩:∃D,x1.heap.size=D:=⟨_,rfl⟩;obtain⟨x2,hx2⟩:∃x2,x1.alloc (.cells YF 25 (0,0))=x2:=⟨_,rfl⟩;have hb2:Below x1.heap.size x1 x2:=by rw[←hx2];exact(Below.refl _ x1).alloc (Nat.le_refl _) _
  have hb12:Below (B+2) wB x2:=hb1.trans (hb2.mono (by have:=hb1.size;have:=HZB.out;omega));have hend:=UP.out x2 hb12;have HX2:=Lib.hid hx2;have HD:=Lib.hid hD;clear hb2 hb12 hx2 hD hb1 CN h0 h1
  go_wp2_with (with_reducible refine Yaf rfl 25 _ _ rfl YF YF 25 rfl rfl HSN rfl HON ?_;rw[HX2.out,HD.out])
  go_ret
  exact⟨by rw[SB.out];rfl,hend⟩
def skR (c:Nat):RowP:=⟨false,0,0,List.replicate c (Yev 0)⟩
def skS (k ref q:Int)(r c:Nat):ShP:=⟨⟨ref,0,k,true,q,[]⟩,List.replicate r (skR c),0⟩
section
variable {k ref q:Int}{r c:Nat}
theorem Yn6:∀x∈Yaw (skS k ref q r c),x=Yev 0:=fun x hx=>by
 obtain⟨y,hy,hx⟩:=List.mem_flatMap.1 hx;obtain rfl:=(List.mem_replicate.1 hy).2;exact(List.mem_replicate.1 hx).2
theorem Yzn {m:Nat}(hm:m<(Yaw (skS k ref q r c)).length):Yjk (skS k ref q r c) m=Yev 0:=by
 unfold Yjk;rw[List.getD_eq_getElem?_getD,List.getElem?_eq_getElem hm,Option.getD_some];exact Yn6 _ (List.getElem_mem hm)
theorem Yzo (hk:Ybr k=true)(h1:0≤ref∧ref≤255)(h2:1≤q∧q≤31)(hr:(r:Int)=Ym6 k)(hc:(c:Int)=Ygp k):Ybe (skS k ref q r c)=0:=by
 have hk2:1≤k∧k≤6:=by simpa [Ybr] using hk
 have ht:Ych (skS k ref q r c)=true:=by
  unfold Ych;rw[Bool.and_eq_true,Bool.and_eq_true,Bool.and_eq_true];refine⟨Yjp.2 ⟨⟨h1.1,h1.2,Int.le_refl (0:Int),show (0:Int)≤7 by decide,h2.1,h2.2⟩,hk2,Nat.zero_le _,fun b hb=>by cases hb⟩,decide_eq_true ⟨Int.le_refl (0:Int),show (0:Int)≤262144 by decide⟩,decide_eq_true (by show ((List.replicate r (skR c)).length:Int)=_;rw[List.length_replicate];exact hr),Yc1.2 fun j hj=>?_⟩
  have e:(skS k ref q r c).rows[j]=skR c:=List.getElem_replicate ..;rw[e];unfold Ydw;rw[Bool.and_eq_true,Bool.and_eq_true,List.all_eq_true];refine⟨decide_eq_true (by show ((List.replicate c (Yev 0)).length:Int)=_;rw[List.length_replicate];exact hc),by show (if false=true then _ else _)=true;rw[if_neg (by decide)];exact decide_eq_true ⟨rfl,rfl⟩,fun x hx=>?_⟩;rw[(List.mem_replicate.1 hx).2]
  exact Yux 0
 refine Yo8 ht (Yc1.2 fun j hj=>?_);rw[Yn6 _ (List.getElem_mem hj),Nat.zero_add];unfold Yd0;rw[show Yi6 (skS k ref q r c).hd.fmt (j:Int) (Yev 0).mx (Yev 0).my=true from Ykg (by rw[←Ylj ht];exact hj),Bool.or_true]
variable {n:Nat→Nat}{f:Nat→Nat→Int}
theorem Yks (hE:Ybe (skS k ref q r c)=0)(hn:Ybk k n=true):Yf2 k n (skS k ref q r c)=0:=Yjl hE (by unfold Yec;rw[hn];show (true&&k==k)=true;simp)
theorem Yzp (hn:Ybk k n=true)(hf:∀p j,0≤f p j∧f p j≤255){m:Nat}(hm:m<(Yaw (skS k ref q r c)).length)(hm2:m<Ybc k){s:Nat}(hs:s<384):Ym7 k n f (skS k ref q r c) m s=Yu7 k m f s:=by
 unfold Ym7;rw[Yzn hm];have h1:=(Ywz (k:=k) (n:=n) (f:=f) (fun p _ i _=>hf p i) (m:Int) (Yrm (skS k ref q r c) m)).1;have h2:(arn 384 (Yt9 k n f (m:Int) (Yev 0) (Yrm (skS k ref q r c) m)).1)[s]? =(arn 384 (Ypv k n f (m:Int)).1)[s]?:=by rw[h1]
 rw[Yfm _ hs,Yfm _ hs] at h2;injection h2 with h2;injection h2 with _ h2;rw[h2];unfold Ypv;rw[hn,Yd3.2 ⟨by omega,by simpa using hm2⟩]
 rfl
theorem Yuu (hE:Ybe (skS k ref q r c)=0)(hn:Ybk k n=true)(hf:∀p j,0≤f p j∧f p j≤255):∀p,p<3→∀j,j<siz k p→Yjm k n f (skS k ref q r c) (Yaw (skS k ref q r c)).length p j=f p j:=by
 have hl:=(Yet (Yks hE hn)).2.1;intro p hp j hj;rw[hl];exact Yuq (k:=k) (P:=Ym7 k n f (skS k ref q r c)) hf (fun m hm s hs=>Yzp hn hf (by rw[hl];exact hm) hm hs) p hp j hj
theorem Ypa (hE:Ybe (skS k ref q r c)=0)(hn:Ybk k n=true)(hf:∀p j,0≤f p j∧f p j≤255):Ygd k (siz k) (Yjm k n f (skS k ref q r c) (Yaw (skS k ref q r c)).length) k n f=true:=
 Yn3 (fun p hp=>((Ydv.1 hn).2 p hp).symm) (Yuu hE hn hf)
theorem Yuv (hE:Ybe (skS k ref q r c)=0)(hn:Ybk k n=true)(hf:∀p j,0≤f p j∧f p j≤255):Ymq k n f (skS k ref q r c)=true:=by
 unfold Ymq;rw[if_pos (Yks hE hn)];exact Ypa hE hn hf
end
def Yzw (n:Nat→Nat)(f:Nat→Nat→Int):Nat→Nat→Int:=fun p j=>if p<3∧j<n p then f p j else 0
theorem Yys {w:World}{v:Nat→Value}{n:Nat→Nat}{f:Nat→Nat→Int}(h:Ygh w v n f):Ygh w v n (Yzw n f)∧∀p j,0≤Yzw n f p j∧Yzw n f p j≤255:=by
 refine⟨fun p hp=>?_,fun p j=>?_⟩
 ·obtain⟨q,c,h1,h2,h3⟩:=h p hp;refine⟨q,c,h1,h2,h3.imp id fun⟨b,o,e,h4⟩=>⟨b,o,e,fun i hi=>?_⟩⟩;have e2:Yzw n f p i=f p i:=if_pos ⟨hp,hi⟩;rw[e2];exact h4 i hi
 ·unfold Yzw
  split
  ·next hpj=>
   obtain⟨q,c,h1,h2,h3⟩:=h p hpj.1;rcases h3 with h3|⟨b,o,e,h4⟩
   ·omega
   ·exact(h4 j hpj.2).2
  ·exact⟨Int.le_refl (0:Int),show (0:Int)≤255 by decide⟩
theorem Yuw {k:Int}(hk:Ybr k=true)(h:¬ (3≤k∧k≤5)):(k=1∧Ym6 k=6∧Ygp k=8)∨(k=2∧Ym6 k=9∧Ygp k=11)∨(k=6∧Ym6 k=2∧Ygp k=2):=by
 have hk2:1≤k∧k≤6:=by simpa [Ybr] using hk
 have:k=1∨k=2∨k=6:=by omega
 rcases this with rfl|rfl|rfl
 ·exact .inl ⟨rfl,by decide +kernel,by decide +kernel⟩
 ·exact .inr (.inl ⟨rfl,by decide +kernel,by decide +kernel⟩)
 ·exact .inr (.inr ⟨rfl,by decide +kernel,by decide +kernel⟩)
theorem Ymk (w:World)(b o:Nat)(v:Value):w.grownBy (w.setCell ⟨b,o,none⟩ v) (some b):=⟨rfl,rfl,rfl,by simp[World.setCell],fun k _ hk=>heap_setCell_other w _ k _ (fun e=>hk (by rw[e]))⟩
def VC (c:Cel)(vs:List Value):Prop:=c=Yev 0∧vs=Ybp (Yev 0) Yhl
theorem VC.celF {L:List (Option Nat)}{w:World}(c:Cel)(vs:List Value)(h:VC c vs):Ym9 L w c vs:=by
 obtain⟨rfl,rfl⟩:=h;exact⟨fun _=>none,fun _=>0,Yiw fun i _=>rfl,by decide,fun i _=>⟨Nat.zero_le _,.inl rfl,.inl rfl⟩⟩
structure Yz0 (Q:Nat) (w0 x:World) (hd:Shd) (rv:Value) (i c:Nat):Prop where
 sh:x.heap[Q]? =some (.cells (Yaz hd (.slice none 0 0) rv 0).toArray 29 (0,0))
 rows:Ycs [some Q,rv.ownBlock] x rv (List.replicate i (skR c))
 low:Below Q w0 x
 lt:Q<x.heap.size
 far:∀k,rv.ownBlock=some k→Q<k
structure Yoa (Q R:Nat) (w0 x:World) (hd:Shd) (rv cv:Value) (i j c:Nat):Prop where
 sh:x.heap[Q]? =some (.cells (Yaz hd (.slice none 0 0) rv 0).toArray 29 (0,0))
 row:x.heap[R]? =some (.cells [.bool false,.int .i64 0,.int .i64 0,cv].toArray 42 (0,0))
 rows:Ycs [some Q,rv.ownBlock,some R,cv.ownBlock] x rv (List.replicate i (skR c))
 cels:Ydg 18 48 VC x (R+1) cv (List.replicate j (Yev 0))
 low:Below Q w0 x
 lt:Q<R∧R<x.heap.size
 far:∀k,rv.ownBlock=some k→Q<k∧k<R
section
variable {Q R:Nat}{w0 x y z:World}{hd:Shd}{rv cv cv' rv':Value}{i j c:Nat}
theorem Yz0.begin (h:Yz0 Q w0 x hd rv i c):Yoa Q x.heap.size w0 (x.alloc (.cells [.bool false,.int .i64 0,.int .i64 0,.slice none 0 0].toArray 42 (0,0))) hd rv (.slice none 0 0) i 0 c:=by
 have hb:Below x.heap.size x (x.alloc (.cells [.bool false,.int .i64 0,.int .i64 0,.slice none 0 0].toArray 42 (0,0))):=(Below.refl _ x).alloc (Nat.le_refl _) _;have hl:=h.lt;refine⟨(hb.block Q h.lt).trans h.sh,heap_alloc_new x _,?_,Ydg.nil ..,h.low.trans (hb.mono (by omega)),⟨h.lt,by simp⟩,fun k hk=>⟨h.far k hk,Ydg.lt h.rows k hk⟩⟩
 refine Ycs.kept (Ycs.mono h.rows (L':=[some Q,rv.ownBlock,some x.heap.size,none]) fun k hk hn=>?_) (Yao hb none) (fun k hk=>by cases hk) (fun k hk=>by cases hk);simp only[List.mem_cons,List.not_mem_nil,or_false,not_or] at hn ⊢;exact⟨hn.1,hn.2,fun e=>by injection e with e;omega,fun e=>by cases e⟩
theorem Yoa.below (h:Yoa Q R w0 x hd rv cv i j c)(hb:Below x.heap.size x y):Yoa Q R w0 y hd rv cv i j c:=by
 have hl:=h.lt;exact⟨(hb.block Q (by omega)).trans h.sh,(hb.block R hl.2).trans h.row,Ycs.kept h.rows (Yao hb none) (fun k hk=>by cases hk) (fun k hk=>by cases hk),Ydg.below h.cels hb,h.low.trans (hb.mono (by omega)),⟨hl.1,Nat.lt_of_lt_of_le hl.2 hb.size⟩,h.far⟩
theorem Yoa.celled (h:Yoa Q R w0 y hd rv cv i j c)(ho:Ydg 18 48 VC z (R+1) cv' (List.replicate j (Yev 0)++[Yev 0]))(hg:y.grownBy z cv.ownBlock)(hw:∀k,cv'.ownBlock=some k→cv.ownBlock=some k∨y.heap.size≤k):
  Yoa Q R w0 (z.setCell ⟨R,3,none⟩ cv') hd rv cv' i (j+1) c:=by
 have hl:=h.lt;have hc:=h.cels.fresh;have hc':=ho.fresh;have hs:=Ymk z R 3 cv';have hz:=hg.size;have hR:z.heap[R]? =some (.cells [.bool false,.int .i64 0,.int .i64 0,cv].toArray 42 (0,0)):=(hg.block R hl.2 (fun e=>by have:=hc R e.symm;omega)).trans h.row;refine⟨?_,Ycq cv' hR,?_,?_,?_,⟨hl.1,by simp[World.setCell];omega⟩,h.far⟩
 ·exact(hs.block Q (by omega) (fun e=>by injection e with e;omega)).trans ((hg.block Q (by omega) (fun e=>by have:=hc Q e.symm;omega)).trans h.sh)
 ·have r1:=Ycs.mono h.rows (L':=[some Q,rv.ownBlock,some R,cv.ownBlock,cv'.ownBlock]) fun k hk hn=>by
   simp only[List.mem_cons,List.not_mem_nil,or_false,not_or] at hn ⊢;refine⟨hn.1,hn.2.1,hn.2.2.1,hn.2.2.2,fun e=>?_⟩;rcases hw k e.symm with e2|e2
   ·exact hn.2.2.2 e2.symm
   ·omega
  have r2:=Ycs.kept r1 hg (fun k hk=>by rw[←hk];simp) (fun k hk e=>by have:=hc k hk;have:=h.far k e;omega);have r3:=Ycs.kept r2 hs (fun k hk=>by rw[←hk];simp) (fun k hk e=>by injection hk with hk;have:=h.far k e;omega);exact Ycs.mono r3 fun k _ hn=>by
   simp only[List.mem_cons,List.not_mem_nil,or_false,not_or] at hn ⊢;exact⟨hn.1,hn.2.1,hn.2.2.1,hn.2.2.2.2⟩
 ·rw[List.replicate_succ'];exact Ydg.kept ho hs (by
   cases e:cv'.ownBlock with
   |none=>exact .inl rfl
   |some g=>exact .inr fun e2=>by injection e2 with e2;have:=hc' g e;omega)
 ·exact(h.low.grown hg (by have:=h.low.size;omega) (fun k hk=>by have:=hc k hk;omega)).setCell (by show Q≤R;omega) _
theorem Yoa.rowF (h:Yoa Q R w0 x hd rv cv i c c)(hc:c≤maxLen):Yk5 [some Q,rv.ownBlock] x (skR c) [.bool false,.int .i64 0,.int .i64 0,cv]:=by
 have hl:=h.lt;refine⟨cv,rfl,Ydg.mono (Ydg.less h.cels (Nat.zero_le _)) VC.celF,by show (List.replicate c (Yev 0)).length≤_;rw[List.length_replicate];exact hc,fun k hk=>?_⟩;have:=h.cels.fresh k hk;simp only[List.mem_cons,List.not_mem_nil,or_false,not_or];exact⟨fun e=>by injection e with e;omega,fun e=>by have:=(h.far k e.symm).2;omega⟩
theorem Yoa.rowsF (h:Yoa Q R w0 x hd rv cv i j c):Ycs [some Q,rv.ownBlock] x rv (List.replicate i (skR c)):=Ycs.mono h.rows fun k _ hn=>by
 simp only[List.mem_cons,List.not_mem_nil,or_false,not_or] at hn ⊢;exact⟨hn.1,hn.2.1⟩
theorem Yoa.rowed (h:Yoa Q R w0 y hd rv cv i j c)(ho:Ydg 4 42 (Yk5 [some Q,rv.ownBlock] y) z 0 rv' (List.replicate i (skR c)++[skR c]))(hg:y.grownBy z rv.ownBlock)(hw:∀k,rv'.ownBlock=some k→rv.ownBlock=some k∨y.heap.size≤k):
  Yz0 Q w0 (z.setCell ⟨Q,6,none⟩ rv') hd rv' (i+1) c:=by
 have hl:=h.lt;have hs:=Ymk z Q 6 rv';have hz:=hg.size;have hQ:z.heap[Q]? =some (.cells (Yaz hd (.slice none 0 0) rv 0).toArray 29 (0,0)):=(hg.block Q (by omega) (fun e=>by have:=h.far Q e.symm;omega)).trans h.sh;have hfar:∀k,rv'.ownBlock=some k→Q<k:=fun k hk=>by
  rcases hw k hk with e|e
  ·exact(h.far k e).1
  ·omega
 refine⟨Ycq rv' hQ,?_,?_,by simp[World.setCell];omega,hfar⟩
 ·rw[List.replicate_succ'];have r1:Ycs [some Q,rv.ownBlock,rv'.ownBlock] z rv' (List.replicate i (skR c)++[skR c]):=Ydg.mono ho fun r vs hr=>(Yk5.mono hr (L':=[some Q,rv.ownBlock,rv'.ownBlock]) fun k hk hn=>by
   simp only[List.mem_cons,List.not_mem_nil,or_false,not_or] at hn ⊢;refine⟨hn.1,hn.2,fun e=>?_⟩;rcases hw k e.symm with e2|e2
   ·exact hn.2 e2.symm
   ·omega).kept hg (fun k hk=>by rw[←hk];simp)
  have r2:=Ycs.kept r1 hs (fun k hk=>by rw[←hk];simp) (fun k hk e=>by injection hk with hk;have:=hfar k e;omega);exact Ycs.mono r2 fun k _ hn=>by
   simp only[List.mem_cons,List.not_mem_nil,or_false,not_or] at hn ⊢;exact⟨hn.1,hn.2.2⟩
 ·exact(h.low.grown hg (by have:=h.low.size;omega) (fun k hk=>by have:=h.far k hk;omega)).setCell (Nat.le_refl _) _
end
theorem Y0f {F:Nat→Nat→Int}{s b i:Nat}(h1:s / 64=b)(h2:s%64=i):ptF F s=F b i:=by
 unfold ptF;rw[h1,h2]
def exI:Cel:={Yzv with kind:=3,dc:=fun _=>10}
def exN:ShP:=⟨⟨0,0,6,false,5,[]⟩,[⟨false,0,0,[exI,exI]⟩,⟨false,0,0,[exI,exI]⟩],0⟩
def exM:ShP:=⟨⟨0,0,6,true,5,[]⟩,[⟨false,0,0,[exI,exI]⟩,⟨false,0,0,[exI,exI]⟩],0⟩
theorem Yor:Yf2 0 (fun _=>0) exN=0∧Yf2 0 (fun _=>0) exM=11:=by decide +kernel
theorem Yyr:∀b,b<6→∀i,i<64→Yrn exI 5 b i=Ynr 80 i:=by decide +kernel
theorem Yyq:∀b,b<6→∀i,i<64→Yik exI 5 b i=10:=fun b hb i hi=>((Yi0 (k:=kI) (lo:=-256) (hi:=255) (Yyr b hb) i hi).trans (Ysx 80 i hi)).trans (by decide +kernel)
theorem Ysp:∀m,m<4→Yjk exN m=exI∧Yrm exN m=5
 |0,_=>⟨rfl,by decide +kernel⟩
 |1,_=>⟨rfl,by decide +kernel⟩
 |2,_=>⟨rfl,by decide +kernel⟩
 |3,_=>⟨rfl,by decide +kernel⟩
theorem Yyp (m:Nat)(hm:m<4)(s:Nat)(hs:s<384):Ym7 0 (fun _=>0) (fun _ _=>0) exN m s=10:=by
 have h:=(Ymi (f:=fun _ _=>0) Yor.1 (m:=m) (show m<(Yaw exN).length from hm)).2;rw[h,(Ysp m hm).1,(Ysp m hm).2];have hp:Yl7 0 (fun _=>0) (fun _ _=>0) (m:Int) exI=(fun _=>0,0):=by
  unfold Yl7;rw[if_pos (by decide)]
 rw[hp];show Yu1 0 (ptF (Yik exI 5) s)=10;rw[Y0f (b:=s / 64) (i:=s%64) rfl rfl,Yyq _ (by omega) _ (by omega)]
 decide +kernel
theorem Yv3:(Yaw exN).length=Ybc 6:=by decide +kernel
theorem Yz6:Yjm 0 (fun _=>0) (fun _ _=>0) exN (Yaw exN).length 0 1023=10:=by
 rw[Yv3];have h4:Ybc 6=4:=by decide +kernel
 exact Yuq (k:=6) (P:=Ym7 0 (fun _=>0) (fun _ _=>0) exN) (f:=fun _ _=>10) (fun _ _=>⟨by decide,by decide⟩) (fun m hm s hs=>Yyp m (by omega) s hs) 0 (by omega) 1023 (by decide +kernel)
theorem Yka:siz 6 0=1024∧Ybk 6 (siz 6)=true:=by decide +kernel
theorem Yz7 {w:World}{N:Nat}(h1:w.heap[N+3]? =some (.cells #[.bool false,.int .i64 0,.int .i64 0,.slice (some ⟨N+1,0,none⟩) 2 2,.bool false,.int .i64 0,.int .i64 0,.slice (some ⟨N+1,0,none⟩) 2 2] 42 (0,0)))
  (h2:w.heap[N+1]? =some (.cells (Ybp exI Yhl++Ybp exI Yhl).toArray 48 (0,0)))(hR:Yx8 w):Yod w exN none (some ⟨N+3,0,none⟩)∧Yod w exM none (some ⟨N+3,0,none⟩):=by
 have hm:(Lit.int .i64 exI.mx).wf=true∧(Lit.int .i64 exI.my).wf=true:=by decide
 have hc:=Yxn hm hm (fun _ _=>rfl) (fun _ _=>rfl) h2;have hr:=Yxp h1 rfl rfl hc hc;have he:∀c∈[exI,exI]++([exI,exI]++[]),∀k,k<6→(c.ev k).length≤1048576:=fun c hc k _=>by
  have:c=exI:=by simpa using hc
  subst this;exact Nat.zero_le _
 obtain⟨hT,hS,hP,hD⟩:=hR;have ask:∀i,Ycz w i:=fun i c p n k y hy hc=>Ye6 i c p n k y hc (hT.below hy) (hS.below hy);exact⟨⟨Nat.zero_le _,by decide,Yde.nil _ _,hr,by decide,he,ask _,hT,hS,hP,hD⟩,⟨Nat.zero_le _,by decide,Yde.nil _ _,hr,by decide,he,ask _,hT,hS,hP,hD⟩⟩
set_option maxRecDepth 100000 in
set_option maxHeartbeats 4000000 in
theorem Yy2 (w:World)(hR:Yx8 w):Calls Tryz.prog 7 #[] w fun e w'=>e=.returned (.bool true)∧Below w.heap.size w w':=by
 obtain⟨N,hN⟩:∃N,w.heap.size=N:=⟨_,rfl⟩;obtain⟨Y,HYS,hzv⟩:=Yef;obtain⟨Yr,HYRS,hzr⟩:=Yfw;obtain⟨Ys,HYSS,hzs⟩:=Yh0;obtain⟨YF,hYF⟩:∃YF,frA 0 Ycc=YF:=⟨_,rfl⟩;have hFz:∀w,(zeroValue 25).run Tryz.prog w=.ok (.agg YF) w:=by rw[←hYF];exact Yf9
 have HYF:YF.size=4:=by rw[←hYF];rfl
 have HSN:(Tryz.prog.info? 25).map (·.size)=some YF.size:=by rw[←hYF];exact Ya0 Ybf 0 Ycc
 have HON:YF.all (·.oneCell')=true:=by rw[←hYF];exact Ycv 0 Ycc (fun _ _=>rfl)
 obtain⟨A,hA⟩:∃A,(Ybp exI Yhl).toArray=A:=⟨_,rfl⟩;obtain⟨Rw,hRw⟩:∃Rw:Array Value,#[.bool false,.int .i64 0,.int .i64 0,.slice (some ⟨N+1,0,none⟩) 2 2]=Rw:=⟨_,rfl⟩;obtain⟨Z1,hZ1⟩:∃Z:Array Value,#[.int .i64 0,.int .i64 0,.int .i64 6,.bool false,.int .i64 5,.slice none 0 0,.slice (some ⟨N+3,0,none⟩) 2 2,.int .i64 0]=Z:=⟨_,rfl⟩
 obtain⟨Z2,hZ2⟩:∃Z:Array Value,#[.int .i64 0,.int .i64 0,.int .i64 6,.bool true,.int .i64 5,.slice none 0 0,.slice (some ⟨N+3,0,none⟩) 2 2,.int .i64 0]=Z:=⟨_,rfl⟩;obtain⟨w0,hw0,hs0,hh0,hb0⟩:=Yeg w (.cells A 48 (0,0));obtain⟨w1,hw1,hs1,hh1,hb1⟩:=Yeg w0 (.cells (Ybp exI Yhl++Ybp exI Yhl).toArray 48 (0,0));obtain⟨w2,hw2,hs2,hh2,hb2⟩:=Yeg w1 (.cells Rw 42 (0,0))
 obtain⟨w3,hw3,hs3,hh3,hb3⟩:=Yeg w2 (.cells #[.bool false,.int .i64 0,.int .i64 0,.slice (some ⟨N+1,0,none⟩) 2 2,.bool false,.int .i64 0,.int .i64 0,.slice (some ⟨N+1,0,none⟩) 2 2] 42 (0,0));obtain⟨w4,hw4,hs4,hh4,hb4⟩:=Yeg w3 (.cells Z1 29 (0,0));rw[hN] at hs0 hh0 hb0;rw[hs0] at hs1 hh1 hb1;rw[hs1] at hs2 hh2 hb2;rw[hs2] at hs3 hh3 hb3;rw[hs3] at hs4 hh4 hb4;have hs1:w1.heap.size=N+2:=hs1
 have hs2:w2.heap.size=N+3:=hs2;have hs3:w3.heap.size=N+4:=hs3;have hs4:w4.heap.size=N+5:=hs4;have hA1:=(hb1.block N (by omega)).trans hh0;have b23:Below (N+2) w2 w3:=hb3.mono (by omega);have b13:Below (N+2) w1 w3:=hb2.trans b23;have b03:Below (N+1) w0 w3:=hb1.trans (b13.mono (by omega));have bw3:Below N w w3:=hb0.trans (b03.mono (by omega))
 have hIN:Hid (∀x,Below (N+4) w3 x→Yod x exN none (some ⟨N+3,0,none⟩)∧Yod x exM none (some ⟨N+3,0,none⟩)):=Lib.hid fun x hx=>
  Yz7 ((hx.block (N+3) (by omega)).trans hh3) ((hx.block (N+1) (by omega)).trans ((b13.block (N+1) (by omega)).trans hh1)) (hR.below (by rw[hN];exact bw3.trans (hx.mono (by omega))))
 have UP:Hid (∀x,Below (N+4) w3 x→Below w.heap.size w x):=Lib.hid fun x hx=>by rw[hN];exact bw3.trans (hx.mono (by omega))
 have CN:=Lib.hid (fun x (hx:Below (N+4) w3 x)=>(by
  rw[←hZ1,←hYF];have h:=(Yd5 0 Ycc (fun _=>0) (fun _ _=>0) exN none (some ⟨N+3,0,none⟩) 0 2 x (Ygh.nil x) (hIN.out x hx).1).2 Yor.1;exact h:Calls Tryz.prog 8 #[.agg YF,.agg Z1] x (Yfg 6 (Yjm 0 (fun _=>0) (fun _ _=>0) exN (Yaw exN).length) x)))
 have CM:Hid (∀x,Below (N+4) w3 x→Calls Tryz.prog 8 #[.agg YF,.agg Z2] x fun e w'=>e=.returned (.tuple #[.agg YF,.int .i64 11])∧Below x.heap.size x w'):=Lib.hid fun x hx=>by
  rw[←hZ2,←hYF];have h:=(Yd5 0 Ycc (fun _=>0) (fun _ _=>0) exM none (some ⟨N+3,0,none⟩) 0 2 x (Ygh.nil x) (hIN.out x hx).2).1 (by rw[Yor.2];decide);rw[Yor.2] at h;exact h
 have hat:=Yz6;generalize Yjm 0 (fun _=>0) (fun _ _=>0) exN (Yaw exN).length=G at CN hat;have HSA:(Tryz.prog.info? 48).map (·.size)=some A.size:=by rw[←hA];exact Yfr _ _
 have HYA:Y.size=A.size:=by rw[HYS,←hA];rfl
 have HOA:A.all (·.oneCell')=true:=by rw[←hA];exact Yei (Ynp w exI (by decide) fun _ _=>rfl)
 have HSR:(Tryz.prog.info? 42).map (·.size)=some Rw.size:=by rw[←hRw];kernel_rfl
 have HYR:Yr.size=Rw.size:=by rw[HYRS,←hRw];rfl
 have HOR:Rw.all (·.oneCell')=true:=by rw[←hRw];simp[Value.oneCell']
 have HSZ1:(Tryz.prog.info? 29).map (·.size)=some Z1.size:=by rw[←hZ1];kernel_rfl
 have HYZ1:Ys.size=Z1.size:=by rw[HYSS,←hZ1];rfl
 have HOZ1:Z1.all (·.oneCell')=true:=by rw[←hZ1];simp[Value.oneCell']
 have HSZ2:(Tryz.prog.info? 29).map (·.size)=some Z2.size:=by rw[←hZ2];kernel_rfl
 have SET:Z1.setIfInBounds 3 (.bool true)=Z2:=by rw[←hZ1,←hZ2];rfl
 have hh33:(w2.alloc (.cells #[.bool false,.int .i64 0,.int .i64 0,.slice (some ⟨N+1,0,none⟩) 2 2,.bool false,.int .i64 0,.int .i64 0,.slice (some ⟨N+1,0,none⟩) 2 2] 42 (0,0))).heap.size=N+3+1:=by rw[hw3,hs3]
 have hb34:Below (N+4) w3 w4:=hb4;have q4:w4.heap[N+1+1+1+1]? =some (.cells Z1 29 (0,0)):=hh4;have r2:=hh2;have HA:=Lib.hid hA;have HRW:=Lib.hid hRw;have HN:=Lib.hid hN;have HZ1:=Lib.hid hZ1;have HW0:=Lib.hid hw0;have HW1:=Lib.hid hw1;have HW2:=Lib.hid hw2;have HW3:=Lib.hid hw3;have HW4:=Lib.hid hw4;have S33:=Lib.hid hh33;have S1:=Lib.hid hs1;have S3:=Lib.hid hs3;have S4:=Lib.hid hs4
 clear hA hN hZ1 hZ2 hRw hYF hw0 hw1 hw2 hw3 hw4 hh1 hh2 hh3 hh4 hb0 hb1 hb2 hb3 hb4 b23 b13 b03 bw3 hs2 hs3 hs4 hh33 hR hIN
 go_enter Tryz.func7,Tryz.ntmps7
 go_wp2_with (first
  |(with_reducible refine wpList_buildTo rfl 48 _ rfl (some 9) rfl (Ybp exI Yhl).toArray (by kernel_rfl) ?_;rw[HA.out])
  |(with_reducible refine Yaf rfl 48 _ _ rfl A Y 48 rfl rfl HSA HYA HOA ?_;rw[HW0.out,HN.out])
  |(with_reducible refine wpList_load_row rfl 48 _ rfl N rfl 48 A (0,0) _ hh0 Tryz.underlying48 rfl HSA ?_)
  |(with_reducible refine Yh5 rfl _ _ rfl exI exI Yhl Yhl (N+1) hs0 12 rfl ?d1 ?d2 ?_;(case d1=>(rw[HA.out];kernel_rfl));(case d2=>(rw[HA.out];kernel_rfl));rw[HW1.out])
  |(with_reducible refine wpList_buildTo rfl 42 _ rfl (some 13) rfl #[.bool false,.int .i64 0,.int .i64 0,.slice (some ⟨N+1,0,none⟩) 2 2] (by kernel_rfl) ?_;rw[HRW.out])
  |(with_reducible refine Yen rfl 42 _ _ rfl Rw Yr 42 (N+2) S1.out rfl rfl HSR HYR HOR ?_;rw[HW2.out])
  |(with_reducible refine wpList_load_row rfl 42 _ rfl (N+2) rfl 42 Rw (0,0) _ r2 Tryz.underlying42 rfl HSR ?_;rw[←HRW.out])
  |(with_reducible refine wpList_buildTo rfl 29 _ rfl (some 17) rfl #[.int .i64 0,.int .i64 0,.int .i64 6,.bool false,.int .i64 5,.slice none 0 0,.slice (some ⟨N+3,0,none⟩) 2 2,.int .i64 0] (by kernel_rfl) ?_;rw[HZ1.out])
  |(with_reducible refine Yen rfl 29 _ _ rfl Z1 Ys 29 (N+3+1) S33.out rfl rfl HSZ1 HYZ1 HOZ1 ?_;rw[HW3.out,HW4.out])
  |(with_reducible refine wpList_load_row rfl 29 _ rfl (N+1+1+1+1) rfl 29 Z1 (0,0) _ q4 Tryz.underlying29 rfl HSZ1 ?_))
 refine(CN.out _ hb34).mono ?_;rintro e x1 ⟨v',g',rfl,hO,hb1⟩;have hlow1:Below (N+4) w3 x1:=hb34.trans (hb1.mono (by have:=S4.out;omega));have q1:=(hb1.block (N+1+1+1+1) (by have:=S4.out;omega)).trans q4;have HSV:=Ya0 Ybf 6 v';have HOV:=Ycv 6 v' hO.ones;have HYV:YF.size=(frA 6 v').size:=HYF;obtain⟨D,hD⟩:∃D,x1.heap.size=D:=⟨_,rfl⟩;obtain⟨x2,hx2⟩:∃x2,x1.alloc (.cells (frA 6 v') 25 (0,0))=x2:=⟨_,rfl⟩
 have hb2:Below x1.heap.size x1 x2:=by rw[←hx2];exact(Below.refl _ x1).alloc (Nat.le_refl _) _
 have hh2:x2.heap[D]? =some (frO 25 6 v'):=by rw[←hx2,←hD];exact heap_alloc_new x1 _
 have hs2:x2.heap.size=D+1:=by rw[←hx2,←hD];simp
 have hlow2:Below (N+4) w3 x2:=hlow1.trans (hb2.mono (by have:=hb1.size;have:=S4.out;omega));have q2:=(hb2.block (N+1+1+1+1) (Array.getElem?_eq_some_iff.1 q1).1).trans q1;have hO2:=hO.below (fun p _=>Yby (show Ybr 6=true by decide) p) hb2;have hND:N+5≤D:=by rw[←hD];have:=hb1.size;have:=S4.out;omega
 obtain⟨x3,hx3⟩:∃x3,x2.setCell ⟨N+1+1+1+1,3,none⟩ (.bool true)=x3:=⟨_,rfl⟩;have c3:x2.cell? ⟨N+1+1+1+1,3,none⟩=some (.bool false):=by rw[cell_of_row _ _ _ _ _ _ q2,←HZ1.out];rfl
 have f3:x2.frozen? ⟨N+1+1+1+1,3,none⟩=false:=frozen_of_row _ _ _ _ _ q2;have q3:x3.heap[N+1+1+1+1]? =some (.cells Z2 29 (0,0)):=by rw[←hx3,heap_setCell_same _ _ _ _ _ _ q2,SET]
 have hlow3:Below (N+4) w3 x3:=by rw[←hx3];exact hlow2.setCell (by simp) _
 have hg3:x2.grownBy x3 (some (N+1+1+1+1)):=by
  rw[←hx3];exact⟨rfl,rfl,rfl,by simp[World.setCell],fun k _ hk=>heap_setCell_other x2 _ k _ (fun e=>hk (by rw[e]))⟩
 have hh3:=(hg3.block D (by omega) (fun e=>by injection e with e;omega)).trans hh2;have hO3:=hO2.keep (w':=x3) fun p hp=>hg3.block _ ((hO2.pl p hp).lt (Yby (show Ybr 6=true by decide) p)) (fun e=>by injection e with e;have:=hO2.from_ p hp;have:=S4.out;omega);have hs3:x3.heap.size=D+1:=by rw[←hx3,←hs2];simp[World.setCell]
 have cm:=CM.out x3 hlow3;have hv:∀p,p<3→∃a c,v' p=.slice a (siz 6 p) c:=fun p hp=>by
  obtain⟨c,h,_⟩:=hO3.pl p hp;exact⟨_,c,h⟩
 have RT:=Lib.hid (fun(x:World)=>(by rw[←Yka.2];exact Yct 6 v' (siz 6) x hv:Calls Tryz.prog 14 #[.agg (frA 6 v')] x fun e y=>e=.returned (.bool true)∧Below x.heap.size x y));obtain⟨c0,hv0,-,hpl⟩:=hO3.pl 0 (by omega);rw[Yka.1] at hv0 hpl;have hp0:=(hpl 1023 (by omega)).1;rw[hat] at hp0
 have CEL:=Lib.hid (fun(y:World) (hy:Below x3.heap.size x3 y)=>(⟨(hy.block D (by omega)).trans hh3,(Yco (T:=25) ((hy.block D (by omega)).trans hh3) (p:=0) (by omega)).trans (by rw[hv0]),(World.cell?_of_block (a:=⟨g' 0,1023,none⟩) (hy.block (g' 0) ((hO3.pl 0 (by omega)).lt (Yby (show Ybr 6=true by decide) 0)))).trans hp0⟩:
  y.heap[D]? =some (frO 25 6 v')∧y.cell? ⟨D,1+0,none⟩=some (.slice (some ⟨g' 0,0,none⟩) 1024 c0)∧y.cell? ⟨g' 0,1023,none⟩=some (.int .u8 10)))
 have hc0:1024≤c0:=by
  obtain⟨c,h,hc,_⟩:=hO3.pl 0 (by omega);rw[hv0,Yka.1] at h;injection h with _ _ h;rw[Yka.1] at hc;omega
 have UPL:=Lib.hid (fun(y:World) (hy:Below x3.heap.size x3 y)=>UP.out y (hlow3.trans (hy.mono (by have:=hlow3.size;have:=S3.out;omega))));obtain⟨ZF,hZF⟩:∃ZF,frA 6 v'=ZF:=⟨_,rfl⟩;unfold frO at CEL;rw[hZF] at HSV HOV HYV hx2 RT CEL ⊢;generalize g' 0=gb at *;have HX2:=Lib.hid hx2;have HX3:=Lib.hid hx3;have HD:=Lib.hid hD
 clear hZF hx2 hx3 hD hb1 hb2 hO hO2 hO3 hh2 hh3 hg3 hlow1 hlow2 hlow3 q1 q2 q4 hv hv0 hpl hp0 hND hs2 hb34 CN CM hh0 r2 hA1 hs0 hs1 hat
 go_wp2_with (first
  |(with_reducible refine Yaf rfl 25 _ _ rfl ZF YF 25 rfl rfl HSV HYV HOV ?_;rw[HX2.out,HD.out])
  |(rw[HX3.out];with_reducible refine wpList_load_row rfl 29 _ rfl (N+1+1+1+1) rfl 29 Z2 (0,0) _ q3 Tryz.underlying29 rfl HSZ2 ?_))
 refine cm.mono ?_;rintro e x4 ⟨rfl,hb4⟩;obtain⟨E,hE⟩:∃E,x4.heap.size=E:=⟨_,rfl⟩;obtain⟨x5,hx5⟩:∃x5,x4.alloc (.cells YF 25 (0,0))=x5:=⟨_,rfl⟩;have hb5:Below x3.heap.size x3 x5:=by rw[←hx5];exact hb4.alloc hb4.size _
 obtain⟨d5,-,-⟩:=CEL.out x5 hb5;have rt:=RT.out x5;have HX5:=Lib.hid hx5;have HE:=Lib.hid hE;have HB5:=Lib.hid hb5;clear hx5 hE hb5 hb4 cm q3 c3 f3
 go_wp2_with (first
  |(with_reducible refine Yaf rfl 25 _ _ rfl YF YF 25 rfl rfl HSN rfl HON ?_;rw[HX5.out,HE.out])
  |(with_reducible refine Yah (by kernel_rfl) 25 _ rfl D rfl 25 ZF (0,0) _ d5 Tryz.underlying25 rfl HSV ?_))
 refine rt.mono ?_;rintro e x6 ⟨rfl,hb6⟩;have hb7:=HB5.out.trans (hb6.mono HB5.out.size);obtain⟨-,k6,p6⟩:=CEL.out x6 hb7;have hend:=UPL.out _ hb7;clear d5 rt hb6 hb7
 go_wp2
 go_ret
 exact⟨rfl,hend⟩
theorem Yji (n m:Nat)(f g:Nat→Int):Yea n f m g=Yea m g n f:=Bool.eq_iff_iff.2 (by
 rw[Yfx,Yfx];exact⟨fun⟨h,h2⟩=>⟨h.symm,fun i hi=>(h2 i (by omega)).symm⟩,fun⟨h,h2⟩=>⟨h.symm,fun i hi=>(h2 i (by omega)).symm⟩⟩)
theorem Yqs (k k':Int)(n n':Nat→Nat)(f f':Nat→Nat→Int):Ygd k n f k' n' f'=Ygd k' n' f' k n f:=Bool.eq_iff_iff.2 (by
 rw[Ydx,Ydx];exact⟨fun⟨h,h2⟩=>⟨h.symm,fun p hp=>(Yji _ _ _ _).trans (h2 p hp)⟩,fun⟨h,h2⟩=>⟨h.symm,fun p hp=>(Yji _ _ _ _).trans (h2 p hp)⟩⟩)
set_option maxRecDepth 100000 in
set_option maxHeartbeats 8000000 in
theorem Yge (k:Int)(v:Nat→Value)(n:Nat→Nat)(f0:Nat→Nat→Int)(qt rf:Int)(w:World)(_:(Lit.int .i64 k).wf=true)(h0:Ygh w v n f0)(_:∀p,p<3→n p≤maxLen)(_:(Lit.int .i64 qt).wf=true)(_:(Lit.int .i64 rf).wf=true)(hR:Yx8 w):
  Calls Tryz.prog 4 #[.agg (frA k v),.int .i64 qt,.int .i64 rf] w fun e w'=>e=.returned (.bool true)∧Below w.heap.size w w':=by
 obtain⟨h,hf⟩:=Yys h0;clear h0;generalize Yzw n f0=f at *;obtain⟨B,hB⟩:∃B,w.heap.size=B:=⟨_,rfl⟩;obtain⟨wA,hwA⟩:∃wA,w.alloc (.cells (frA k v) 25 (0,0))=wA:=⟨_,rfl⟩;have hhA:wA.heap[B]? =some (.cells (frA k v) 25 (0,0)):=by rw[←hwA,←hB];exact heap_alloc_new w _
 have hbA:Below w.heap.size w wA:=by rw[←hwA];exact(Below.refl _ w).alloc (Nat.le_refl _) _
 have hsA:wA.heap.size=B+1:=by rw[←hwA,←hB];simp
 have up:∀x,Below (B+1) wA x→Below w.heap.size w x:=fun x hx=>hbA.trans (hx.mono (by omega));have UP:=Lib.hid up;have DN:=Lib.hid (fun(x y:World) (hx:Below (B+1) wA x) (hy:Below x.heap.size x y)=>(hx.trans (hy.mono (by have:=hx.size;omega)):Below (B+1) wA y));have SZ:=Lib.hid (fun(x:World) (hx:Below (B+1) wA x)=>(by have:=hx.size;omega:B+1≤x.heap.size))
 have FR:=Lib.hid (fun(x:World) (hx:Below (B+1) wA x)=>((hx.block B (by omega)).trans hhA:x.heap[B]? =some (.cells (frA k v) 25 (0,0))));have FM:=Lib.hid (fun(x:World) (hx:Below (B+1) wA x)=>(Ybj (T:=25) (v:=v) ((hx.block B (by omega)).trans hhA):x.cell? ⟨B,0,none⟩=some (.int .i64 k)));have FRS:=Ya0 Ybf k v;have LI:=Lib.hid (fun(x:World)=>Yp8 k v n x h.slices)
 have RT:=Lib.hid (fun(x:World)=>Yct k v n x h.slices);have LIV:=Lib.hid (fun(x:World) (hx:Below (B+1) wA x)=>Yy2 x (hR.below (up x hx)));have IN:=Lib.hid (fun(S:ShP) (q:Option Addr) (x:World) (hx:Below (B+1) wA x) (hr:Ydh x q S.rows) (hs:S.hd.supp=[]) (hn:S.rows.length≤9) (hm:(Yaw S).length≤1048576) (hc:∀c∈Yaw S,c=Yev 0)=>(by
  obtain⟨hT,hSt,hP,hD⟩:=hR.below (up x hx);exact⟨by rw[hs];exact Nat.zero_le _,by omega,by rw[hs];exact Yde.nil _ _,hr,hm,fun c h k _=>by rw[hc c h];exact Nat.zero_le _,fun c p n k y hy hc=>Ye6 S.hd.inter c p n k y hc (hT.below hy) (hSt.below hy),hT,hSt,hP,hD⟩:Yod x S none q))
 have NXT:=Lib.hid (fun(S:ShP) (q:Option Addr) (cap:Nat) (x:World) (hx:Below (B+1) wA x) (hI:Yod x S none q) (hE:Yf2 k n S=0)=>(Yd5 k v n f S none q 0 cap x (h.below (up x hx)) hI).2 hE);have STL:=Lib.hid (fun(S:ShP) (q:Option Addr) (cap:Nat) (x:World) (hx:Below (B+1) wA x) (hI:Yod x S none q)=>Ymj k v n f S none q 0 cap x (h.below (up x hx)) hI)
 have SM:=Lib.hid (fun(F:Nat→Nat→Int) (v':Nat→Value) (x:World) (hx:Below (B+1) wA x) (hF:Ygh x v' (siz k) F)=>Yhh k k v v' n (siz k) f F x (h.below (up x hx)) hF);obtain⟨Ys,HYSS,hzs⟩:=Yh0;obtain⟨Yr,hYr⟩:∃Yr,([.bool false,.int .i64 0,.int .i64 0,.slice none 0 0]:List Value).toArray=Yr:=⟨_,rfl⟩;have hzr:∀w,(zeroValue 42).run Tryz.prog w=.ok (.agg Yr) w:=by rw[←hYr];exact Yfi (by kernel_rfl)
 obtain⟨YF,hYF⟩:∃YF,frA 0 Ycc=YF:=⟨_,rfl⟩;have hFz:∀w,(zeroValue 25).run Tryz.prog w=.ok (.agg YF) w:=by rw[←hYF];exact Yf9
 have HYF:YF.size=4:=by rw[←hYF];rfl
 obtain⟨X,hX⟩:∃X,frA k v=X:=⟨_,rfl⟩;rw[hX] at hwA hhA FR FRS LI RT NXT STL SM ⊢;have hF:=Lib.hid hf;have HYR:=Lib.hid hYr;have HWA:=Lib.hid hwA;have HB:=Lib.hid hB;have W0:=Lib.hid (Below.refl (B+1) wA);have fr0:=hhA;clear hf hYr hYF hX hwA hB hhA hbA hsA up h hR
 go_enter Tryz.func4,Tryz.ntmps4
 go_wp2_with (rw[HWA.out,HB.out];with_reducible refine wpList_load_row rfl 25 _ rfl B rfl 25 X (0,0) _ fr0 Tryz.underlying25 rfl FRS ?_)
 refine(LI.out _).mono ?_;rintro e x1 ⟨rfl,hx1⟩;have b1:=DN.out _ _ W0.out hx1;clear hx1 fr0 W0;cases hlf:Ys5 n with
 |false=>
  clear hlf
  go_wp2_with fail
  refine(LIV.out _ b1).mono ?_;rintro e xl ⟨rfl,hxl⟩;have hend:=UP.out _ (DN.out _ _ b1 hxl)
  go_wp2
  go_ret
  exact⟨rfl,hend⟩
 |true=>
  clear hlf;have f1:=FR.out _ b1
  go_wp2_with (with_reducible refine Yah (by kernel_rfl) 25 _ rfl B rfl 25 X (0,0) _ f1 Tryz.underlying25 rfl FRS ?_)
  refine(RT.out _).mono ?_;rintro e x2 ⟨rfl,hx2⟩;have b2:=DN.out _ _ b1 hx2;clear hx2 f1 b1;cases hrf:Ybk k n with
  |false=>
   clear hrf
   go_wp2_with fail
   refine(LIV.out _ b2).mono ?_;rintro e xl ⟨rfl,hxl⟩;have hend:=UP.out _ (DN.out _ _ b2 hxl)
   go_wp2
   go_ret
   exact⟨rfl,hend⟩
  |true=>
   have HN:=Lib.hid hrf;have hk:=(Ydv.1 hrf).1;have k2:=FM.out _ b2;clear hrf;by_cases h35:3≤k∧k≤5
   case pos=>
    have t1:decide (3≤k)=true:=decide_eq_true h35.1;have t2:decide (k≤5)=true:=decide_eq_true h35.2;clear h35 hk
    go_wp2_with fail
    refine(LIV.out _ b2).mono ?_;rintro e xl ⟨rfl,hxl⟩;have hend:=UP.out _ (DN.out _ _ b2 hxl)
    go_wp2
    go_ret
    exact⟨rfl,hend⟩
   case neg=>
    obtain⟨rr,cc,e1,e2,g3,te1,te2,hrr,hcc,hsl⟩:∃(rr cc:Nat) (e1 e2 g3:Bool),(k==1)=e1∧(k==2)=e2∧(rr:Int)=Ym6 k∧(cc:Int)=Ygp k∧((e1=true∧e2=false∧rr=6∧cc=8∧decide (3≤k)=false∧decide (k≤5)=true)∨(e1=false∧e2=true∧rr=9∧cc=11∧decide (3≤k)=false∧decide (k≤5)=true)∨(e1=false∧e2=false∧rr=2∧cc=2∧decide (3≤k)=true∧decide (k≤5)=false)):=by
     rcases Yuw hk h35 with ⟨rfl,h1,h2⟩|⟨rfl,h1,h2⟩|⟨rfl,h1,h2⟩
     ·exact⟨6,8,true,false,false,rfl,rfl,h1.symm,h2.symm,.inl ⟨rfl,rfl,rfl,rfl,rfl,rfl⟩⟩
     ·exact⟨9,11,false,true,false,rfl,rfl,h1.symm,h2.symm,.inr (.inl ⟨rfl,rfl,rfl,rfl,rfl,rfl⟩)⟩
     ·exact⟨2,2,false,false,true,rfl,rfl,h1.symm,h2.symm,.inr (.inr ⟨rfl,rfl,rfl,rfl,rfl,rfl⟩)⟩
    clear g3 h35;have hbr:rr≤9∧cc≤11:=by omega
    obtain⟨ru,hru,hru0,hru1⟩:∃ru,bits .and .i64 rf 255=ru∧0≤ru∧ru≤255:=⟨_,rfl,by rw[show (255:Int)=2^8-1 by decide,Ye2 rf 8 (by omega)];omega,by rw[show (255:Int)=2^8-1 by decide,Ye2 rf 8 (by omega)];omega⟩
    obtain⟨qa,hqa,hqa0,hqa1⟩:∃qa,bits .and .i64 qt 15=qa∧0≤qa∧qa≤15:=⟨_,rfl,by rw[show (15:Int)=2^4-1 by decide,Ye2 qt 4 (by omega)];omega,by rw[show (15:Int)=2^4-1 by decide,Ye2 qt 4 (by omega)];omega⟩;obtain⟨qu,hqu⟩:∃qu,1+qa=qu:=⟨_,rfl⟩;have hwq:IntKind.i64.wrap (1+qa)=qu:=by rw[Ygx (by omega)];exact hqu
    have hE:Ybe (skS k ru qu rr cc)=0:=Yzo hk ⟨hru0,hru1⟩ (by omega) hrr hcc;have HE:=Lib.hid hE;have SE:=Lib.hid (Yks (n:=n) hE HN.out);have ST:=Lib.hid (Yuv (n:=n) hE HN.out hF.out);have SS:=Lib.hid ((Yqs k k n (siz k) f (Yjm k n f (skS k ru qu rr cc) (Yaw (skS k ru qu rr cc)).length)).trans (Ypa (n:=n) hE HN.out hF.out));have SOM:=Lib.hid (fun(p:Nat) (_:p<3)=>Yby hk p)
    have MANY:=Lib.hid (show (Yaw (skS k ru qu rr cc)).length≤1048576 by rw[(Yet SE.out).2.1];have:=Yds k;show Ybc k≤_;omega);obtain⟨hd,hhd⟩:∃hd:Shd,⟨ru,0,k,true,qu,[]⟩=hd:=⟨_,rfl⟩;have HHD:=Lib.hid hhd;obtain⟨ZA,hZA⟩:∃ZA,(Yaz hd (.slice none 0 0) (.slice none 0 0) 0).toArray=ZA:=⟨_,rfl⟩;have HZA:=Lib.hid hZA;have HSZ:(Tryz.prog.info? 29).map (·.size)=some ZA.size:=by rw[←hZA];kernel_rfl
    have HYZ:Ys.size=ZA.size:=by rw[HYSS,←hZA];rfl
    have HOZ:ZA.all (·.oneCell')=true:=by rw[←hZA];simp[Yaz,Value.oneCell']
    have HZL:#[.int .i64 ru,.int .i64 0,.int .i64 k,.bool true,.int .i64 qu,.slice none 0 0,.slice none 0 0,.int .i64 0]=ZA:=by rw[←hZA,←hhd];rfl
    have HZLH:=Lib.hid HZL;obtain⟨Q,hQ⟩:∃Q,x2.heap.size=Q:=⟨_,rfl⟩;obtain⟨xQ,hxQ⟩:∃xQ,x2.alloc (.cells ZA 29 (0,0))=xQ:=⟨_,rfl⟩;have hhQ:xQ.heap[Q]? =some (.cells ZA 29 (0,0)):=by rw[←hxQ,←hQ];exact heap_alloc_new x2 _
    have hlQ:Below Q x2 xQ:=by rw[←hQ,←hxQ];exact(Below.refl _ x2).alloc (Nat.le_refl _) _
    have hsQ:xQ.heap.size=Q+1:=by rw[←hxQ,←hQ];simp
    have OT0:=Lib.hid (⟨by rw[hhQ,←hZA],Ycs.nil _ _,hlQ,by omega,fun k hk=>by cases hk⟩:Yz0 Q x2 xQ hd (.slice none 0 0) 0 cc);have LOW:=Lib.hid (fun(y:World) (hy:Below Q x2 y)=>DN.out _ _ b2 (hQ▸hy));have kQ:=FM.out _ (LOW.out _ hlQ);have HQ:=Lib.hid hQ;have HXQ:=Lib.hid hxQ;clear hE hhd hZA HZL hQ hxQ hhQ hlQ hsQ hru0 hru1 hqa0 hqa1 hqu hrr hcc hk b2
    rcases hsl with ⟨rfl,rfl,hrr,hcc,hg3,hg5⟩|⟨rfl,rfl,hrr,hcc,hg3,hg5⟩|⟨rfl,rfl,hrr,hcc,hg3,hg5⟩
    all_goals
     go_wp2_with (first
      |(with_reducible refine wpList_buildTo rfl 29 _ rfl (some 41) rfl #[.int .i64 ru,.int .i64 0,.int .i64 k,.bool true,.int .i64 qu,.slice none 0 0,.slice none 0 0,.int .i64 0] (by kernel_rfl) ?_;rw[HZLH.out])
      |(with_reducible refine Yaf rfl 29 _ _ rfl ZA Ys 29 rfl rfl HSZ HYZ HOZ ?_;rw[HXQ.out,HQ.out]))
     clear kQ k2 te1 te2 hg3 hg5 hru hqa hwq
     go_loopw [10] (fun t wr=>∃(i:Nat) (rv:Value),i≤rr∧t=.int .i64 (i:Int)∧Hid (Yz0 Q x2 wr hd rv i cc)) (fun t _=>rr-(RowKit.intOf t).toNat)
     case atStart=>exact⟨0,_,Nat.zero_le _,rfl,OT0⟩
     case round=>
      clear OT0;obtain⟨i,rv,hi,rfl,ot⟩:=hrel;by_cases hlt:i<rr
      ·(first|have t0:decide ((i:Int)<2)=true:=decide_eq_true (by omega)|have t0:decide ((i:Int)<6)=true:=decide_eq_true (by omega)|have t0:decide ((i:Int)<9)=true:=decide_eq_true (by omega))
       obtain⟨R,hR⟩:∃R,wr.heap.size=R:=⟨_,rfl⟩;obtain⟨wR,hwR⟩:∃wR,wr.alloc (.cells Yr 42 (0,0))=wR:=⟨_,rfl⟩;have bd:=ot.out.begin;rw[HYR.out,hwR,hR] at bd;have BD0:=Lib.hid bd;have HRR:=Lib.hid hR;have HWR:=Lib.hid hwR;clear bd hR hwR ot
       go_wp2
       rw[HWR.out,HRR.out]
       go_loopw [12] (fun t wr=>∃(j:Nat) (cv:Value),j≤cc∧t=.int .i64 (j:Int)∧Hid (Yoa Q R x2 wr hd rv cv i j cc)) (fun t _=>cc-(RowKit.intOf t).toNat)
       case atStart=>exact⟨0,_,Nat.zero_le _,rfl,BD0⟩
       case round=>
        clear BD0 t0;obtain⟨j,cv,hj,rfl,bd⟩:=hrel;by_cases hjm:j<cc
        ·(first|have t1:decide ((j:Int)<2)=true:=decide_eq_true (by omega)|have t1:decide ((j:Int)<8)=true:=decide_eq_true (by omega)|have t1:decide ((j:Int)<11)=true:=decide_eq_true (by omega))
         obtain⟨P,hP⟩:∃P,wr.heap.size=P:=⟨_,rfl⟩;obtain⟨wP,hwP⟩:∃wP,wr.alloc (.cells (Ybp (Yev 0) Yhl).toArray 48 (0,0))=wP:=⟨_,rfl⟩;have hbP:Below wr.heap.size wr wP:=by rw[←hwP];exact(Below.refl _ wr).alloc (Nat.le_refl _) _
         have hPP:wP.heap[P]? =some (.cells (Ybp (Yev 0) Yhl).toArray 48 (0,0)):=by rw[←hwP,←hP];exact heap_alloc_new wr _
         have bdP:=bd.out.below hbP;have hcP:∀(j:Nat) u,(Ybp (Yev 0) Yhl)[j]? =some u→wP.cell? ⟨P,j,none⟩=some u:=fun j u hu=>Yac hPP hu;have c30:=Yac (o:=3) bd.out.row rfl;have h1c:∀u∈Ybp (Yev 0) Yhl,u.oneCell'=true:=(Ym9.shape (VC.celF (L:=[]) (w:=w) _ _ ⟨rfl,rfl⟩)).2;have hlR:=bdP.lt.2;have hown:=bdP.cels;have hfr:=Lib.hid hown.fresh;have hrow:=Lib.hid bdP.row;obtain⟨ri,rz,j0,j1,j2,j3,j4⟩:=Yvv
         have HCP:=Lib.hid hcP;have HWP:=Lib.hid hwP;have HP:=Lib.hid hP;have HBD:=Lib.hid bdP;have HLR:=Lib.hid hlR;clear hcP hwP hP hbP hPP bd bdP
         go_wp2_with (first
          |(with_reducible refine wpList_buildTo rfl 48 _ rfl (some 60) rfl (Ybp (Yev 0) Yhl).toArray (by kernel_rfl) ?_)
          |(with_reducible refine Yil rfl _ rfl (Yev 0) Yhl (by kernel_rfl) ?_;rw[HWP.out,HP.out])
          |(at_builtin;refine Yf1 (V:=VC) (w:=wP) (c:=18) (bytes:=240) (base:=R+1) (v:=cv) (l:=List.replicate j (Yev 0)) (y:=Yev 0) (vs:=Ybp (Yev 0) Yhl) (K:=P) (cap:=1) rfl rfl Tryz.underlying40 j0 j1 j2 j3 j4 (by decide) ?d1 ?d2 hown ⟨rfl,rfl⟩ rfl h1c HCP.out ?d3 ?d4 hlR ?_;(case d1=>kernel_rfl);(case d2=>kernel_rfl);(case d3=>(rw[List.length_replicate];unfold maxLen;omega));(case d4=>(rw[List.length_replicate];omega));intro q9 cap9 w9 ho9 hg9 hw9;have hR9:=(hg9.block R HLR.out (fun e=>by have:=hfr.out R e.symm;omega)).trans hrow.out;have c6:=Yac (o:=3) hR9 rfl;have c7:=Ya9 (o:=3) hR9))
         have bd8:=HBD.out.celled ho9 hg9 hw9;rw[List.length_replicate] at bd8;have bd9:=Lib.hid bd8;clear bd8
         go_roundw
         case rel=>exact⟨j+1,_,by omega,by go_num,bd9⟩
         case measure=>simp[RowKit.intOf];omega
        ·obtain rfl:j=cc:=by omega
         (first|have t1:decide ((j:Int)<11)=false:=decide_eq_false (by omega)|have t1:decide ((j:Int)<8)=false:=decide_eq_false (by omega)|have t1:decide ((j:Int)<2)=false:=decide_eq_false (by omega))
         obtain⟨P,hP⟩:∃P,wr.heap.size=P:=⟨_,rfl⟩;obtain⟨wP,hwP⟩:∃wP,wr.alloc (.cells #[.bool false,.int .i64 0,.int .i64 0,cv] 42 (0,0))=wP:=⟨_,rfl⟩;have hbP:Below wr.heap.size wr wP:=by rw[←hwP];exact(Below.refl _ wr).alloc (Nat.le_refl _) _
         have hPP:wP.heap[P]? =some (.cells ([.bool false,.int .i64 0,.int .i64 0,cv]:List Value).toArray 42 (0,0)):=by rw[←hwP,←hP];exact heap_alloc_new wr _
         have bdP:=bd.out.below hbP;have hcP:∀(j:Nat) u,([.bool false,.int .i64 0,.int .i64 0,cv]:List Value)[j]? =some u→wP.cell? ⟨P,j,none⟩=some u:=fun j u hu=>Yac hPP hu;have c60:=Yac (o:=6) bd.out.sh rfl;have hrow9:=bd.out.row;have HSR:(Tryz.prog.info? 42).map (·.size)=some ([.bool false,.int .i64 0,.int .i64 0,cv]:List Value).toArray.size:=by kernel_rfl
         obtain⟨ri,rz,j0,j1,j2,j3,j4⟩:=Yw5;have hrF:=bdP.rowF (by unfold maxLen;omega);have h1c:∀u∈([.bool false,.int .i64 0,.int .i64 0,cv]:List Value),u.oneCell'=true:=(Yk5.shape hrF).2;have hrows:=bdP.rowsF;have hshQ:=Lib.hid bdP.sh;have hlt2:=Lib.hid bdP.lt;have hfar:=Lib.hid bdP.far;have HCP:=Lib.hid hcP;have HWP:=Lib.hid hwP;have HP:=Lib.hid hP;have HBD:=Lib.hid bdP
         clear hcP hwP hP hbP hPP bd bdP
         go_wp2_with (first
          |(with_reducible refine wpList_load_row rfl 42 _ rfl R rfl 42 ([.bool false,.int .i64 0,.int .i64 0,cv]:List Value).toArray (0,0) _ hrow9 Tryz.underlying42 rfl HSR ?_)
          |(with_reducible refine Ykw rfl _ rfl (.bool false) (.int .i64 0) (.int .i64 0) cv rfl ?_;rw[HWP.out,HP.out])
          |(at_builtin;refine Yf1 (V:=Yk5 [some Q,rv.ownBlock] wP) (w:=wP) (c:=4) (bytes:=48) (base:=0) (v:=rv) (l:=List.replicate i (skR j)) (y:=skR j) (vs:=[.bool false,.int .i64 0,.int .i64 0,cv]) (K:=P) (cap:=1) rfl rfl Tryz.underlying27 j0 j1 j2 j3 j4 (by decide) ?d1 ?d2 hrows hrF rfl h1c HCP.out ?d3 ?d4 (Nat.zero_le _) ?_;(case d1=>kernel_rfl);(case d2=>kernel_rfl);(case d3=>(rw[List.length_replicate];unfold maxLen;omega));(case d4=>(rw[List.length_replicate];omega));intro q9 cap9 w9 ho9 hg9 hw9;have hX9:=(hg9.block Q (by have:=hlt2.out;omega) (fun e=>by have:=hfar.out Q e.symm;omega)).trans hshQ.out;have c6:=Yac (o:=6) hX9 rfl;have c7:=Ya9 (o:=6) hX9))
         have ot8:=HBD.out.rowed ho9 hg9 hw9;rw[List.length_replicate] at ot8;have ot9:=Lib.hid ot8;clear ot8
         go_roundw
         case rel=>exact⟨i+1,_,by omega,by go_num,ot9⟩
         case measure=>simp[RowKit.intOf];omega
      ·obtain rfl:i=rr:=by omega
       (first|have t0:decide ((i:Int)<9)=false:=decide_eq_false (by omega)|have t0:decide ((i:Int)<6)=false:=decide_eq_false (by omega)|have t0:decide ((i:Int)<2)=false:=decide_eq_false (by omega))
       have otr:=ot.out;obtain⟨q,cap,rfl,hrin⟩:=Ycs.rows otr.rows;have lw:=LOW.out _ otr.low;have hI:=IN.out (skS k ru qu i cc) q wr lw hrin rfl (by show (List.replicate i (skR cc)).length≤9;rw[List.length_replicate];omega) MANY.out Yn6
       obtain⟨ZS,hZS⟩:∃ZS,(Yaz (skS k ru qu i cc).hd (.slice none (skS k ru qu i cc).hd.supp.length 0) (.slice q (skS k ru qu i cc).rows.length cap) (skS k ru qu i cc).zeros).toArray=ZS:=⟨_,rfl⟩;have sh2:wr.heap[Q]? =some (.cells ZS 29 (0,0)):=by
        have h1:=otr.sh;rw[←HHD.out] at h1;rw[←hZS];exact h1
       have HSS:(Tryz.prog.info? 29).map (·.size)=some ZS.size:=by rw[show ZS.size=8 by rw[←hZS];rfl];kernel_rfl
       have nx:Calls Tryz.prog 8 #[.agg X,.agg ZS] wr (Yfg k (Yjm k n f (skS k ru qu i cc) (Yaw (skS k ru qu i cc)).length) wr):=by
        rw[←hZS];exact NXT.out (skS k ru qu i cc) q cap wr lw hI SE.out
       have STW:=Lib.hid (fun(y:World) (hy:Below wr.heap.size wr y)=>(by
        rw[←hZS,←ST.out];exact STL.out (skS k ru qu i cc) q cap y (DN.out _ _ lw hy) (hI.below hy):Calls Tryz.prog 11 #[.agg X,.agg ZS] y fun e z=>e=.returned (.bool true)∧Below y.heap.size y z))
       have SHW:=Lib.hid (fun(y:World) (hy:Below wr.heap.size wr y)=>(hy.block Q otr.lt).trans sh2);have LW:=Lib.hid lw;generalize Yjm k n f (skS k ru qu i cc) (Yaw (skS k ru qu i cc)).length=G at nx SS
       have SMG:=Lib.hid (fun(v':Nat→Value) (x:World) (hx:Below (B+1) wA x) (hF:Ygh x v' (siz k) G)=>(by rw[←SS.out];exact SM.out G v' x hx hF:Calls Tryz.prog 10 #[.agg X,.agg (frA k v')] x fun e y=>e=.returned (.bool true)∧Below x.heap.size x y));have fr:=FR.out _ lw;have sh3:=sh2;clear otr hrin hI hZS sh2 ot lw SE ST SS IN NXT STL SM MANY
       go_wp2_with (first|(with_reducible refine wpList_load_row rfl 25 _ rfl B rfl 25 X (0,0) _ fr Tryz.underlying25 rfl FRS ?_)|(with_reducible refine wpList_load_row rfl 29 _ rfl Q rfl 29 ZS (0,0) _ sh3 Tryz.underlying29 rfl HSS ?_))
       refine nx.mono ?_;rintro e x3 ⟨v3,g3,rfl,hO,hx3⟩;have HSV:=Ya0 Ybf k v3;have HOV:=Ycv k v3 hO.ones;have HYV:YF.size=(frA k v3).size:=HYF;obtain⟨D,hD⟩:∃D,x3.heap.size=D:=⟨_,rfl⟩;obtain⟨x4,hx4⟩:∃x4,x3.alloc (.cells (frA k v3) 25 (0,0))=x4:=⟨_,rfl⟩;have hb34:Below x3.heap.size x3 x4:=by rw[←hx4];exact(Below.refl _ x3).alloc (Nat.le_refl _) _
       have hb4:Below wr.heap.size wr x4:=hx3.trans (hb34.mono hx3.size);have b4:=DN.out _ _ LW.out hb4;have f4:=FR.out _ b4;have g4:x4.heap[D]? =some (.cells (frA k v3) 25 (0,0)):=by rw[←hx4,←hD];exact heap_alloc_new x3 _
       have sm4:=SMG.out v3 x4 b4 ((hO.below SOM.out hb34).at);have HB4:=Lib.hid hb4;obtain⟨ZF,hZF⟩:∃ZF,frA k v3=ZF:=⟨_,rfl⟩;rw[hZF] at HSV HOV HYV hx4 g4 sm4 ⊢;have HX4:=Lib.hid hx4;have HD:=Lib.hid hD;clear hx4 hD hb4 hb34 hx3 nx hO hZF fr sh3 SMG
       go_wp2_with (first|(with_reducible refine Yaf rfl 25 _ _ rfl ZF YF 25 rfl rfl HSV HYV HOV ?_;rw[HX4.out,HD.out])|(with_reducible refine Yah (by kernel_rfl) 25 _ rfl B rfl 25 X (0,0) _ f4 Tryz.underlying25 rfl FRS ?_)|(with_reducible refine Yah (by kernel_rfl) 25 _ rfl D rfl 25 ZF (0,0) _ g4 Tryz.underlying25 rfl HSV ?_))
       refine sm4.mono ?_;rintro e x5 ⟨rfl,hx5⟩;have hb5:=HB4.out.trans (hx5.mono HB4.out.size);have b5:=DN.out _ _ LW.out hb5;have f5:=FR.out _ b5;have s5:=SHW.out _ hb5;have st5:=STW.out _ hb5;clear f4 g4 sm4 hx5 hb5
       go_wp2_with (first|(with_reducible refine Yah (by kernel_rfl) 25 _ rfl B rfl 25 X (0,0) _ f5 Tryz.underlying25 rfl FRS ?_)|(with_reducible refine Yah (by kernel_rfl) 29 _ rfl Q rfl 29 ZS (0,0) _ s5 Tryz.underlying29 rfl HSS ?_))
       refine st5.mono ?_;rintro e x6 ⟨rfl,hx6⟩;have b6:=DN.out _ _ b5 hx6;clear f5 s5 st5 hx6
       go_wp2_with fail
       refine(LIV.out _ b6).mono ?_;rintro e xl ⟨rfl,hxl⟩;have hend:=UP.out _ (DN.out _ _ b6 hxl)
       go_wp2
       go_ret
       exact⟨rfl,hend⟩
end Go.Proofs.YtnamlooifcpoaaaGreatDoor