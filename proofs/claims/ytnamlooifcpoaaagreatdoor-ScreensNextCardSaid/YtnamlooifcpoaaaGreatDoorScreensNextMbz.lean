/- No condition. -/
import Derived.Test.YtnamlooifcpoaaaGreatDoorScreensNextMa
import Derived.Test.YtnamlooifcpoaaaGreatDoorScreensNextMf
import Derived.Test.YtnamlooifcpoaaaGreatDoorScreensNextMg
import Derived.Test.YtnamlooifcpoaaaGreatDoorScreensNextMv
import Derived.Test.YtnamlooifcpoaaaGreatDoorScreensNextMz
import Derived.Test.YtnamlooifcpoaaaGreatDoorScreensNextMba
import Derived.Test.YtnamlooifcpoaaaGreatDoorScreensNextMbi
import Derived.Test.YtnamlooifcpoaaaGreatDoorScreensNextMbl
import Derived.Test.YtnamlooifcpoaaaGreatDoorScreensNextMbn
import Derived.Test.YtnamlooifcpoaaaGreatDoorScreensNextMbo
import Derived.Test.YtnamlooifcpoaaaGreatDoorScreensNextMbs
import Derived.Test.YtnamlooifcpoaaaGreatDoorScreensNextMbt
import Derived.Test.YtnamlooifcpoaaaGreatDoorScreensNextMbu
import Derived.Test.YtnamlooifcpoaaaGreatDoorScreensNextMbv
import Derived.Test.YtnamlooifcpoaaaGreatDoorScreensNextMbx
import Derived.Test.YtnamlooifcpoaaaGreatDoorScreensNextMby
import Derived.WalkMore
import Derived.RegionTactic
namespace Go.Proofs.YtnamlooifcpoaaaGreatDoor
open Go.RowKit Go.Lib
set_option maxRecDepth 100000 in
set_option maxHeartbeats 2000000 in
theorem Ysr (k K:Int)(v:Nat→Value)(n:Nat→Nat)(w:World)(hv:∀p,p<3→∃a c,v p=.slice a (n p) c):
  Calls Tryz.prog 16 #[.agg (frA k v),.int .i64 K] w fun e w'=>e=.returned (.bool (Ygn k n K))∧Below w.heap.size w w':=by
 have CR:=fun(x:World)=>Yet k v n x hv;obtain⟨B,hB⟩:∃B,w.heap.size=B:=⟨_,rfl⟩;obtain⟨wA,hwA⟩:∃wA,w.alloc (.cells (frA k v) 25 (0,0))=wA:=⟨_,rfl⟩;have hhA:wA.heap[B]? =some (.cells (frA k v) 25 (0,0)):=by rw[←hwA,←hB];exact heap_alloc_new w _
 have hbA:Below w.heap.size w wA:=by rw[←hwA];exact(Below.refl _ w).alloc (Nat.le_refl _) _
 have hsA:wA.heap.size=B+1:=by rw[←hwA,←hB];simp
 have FM:=Lib.hid (fun(x:World) (hx:Below wA.heap.size wA x)=>(Ybn (T:=25) (v:=v) ((hx.block B (by omega)).trans hhA):x.cell? ⟨B,0,none⟩=some (.int .i64 k)));have UP:=Lib.hid (fun(x:World) (hx:Below wA.heap.size wA x)=>(hbA.trans (hx.mono hbA.size):Below w.heap.size w x));have HSX:=Ya1 Ybh k v;have HE:=Lib.hid (show Ygn k n K=(Yb7 k n&&k==K) from rfl);generalize frA k v=X at *
 generalize Ygn k n K=E at *;generalize Yb7 k n=r at *;have HWA:=Lib.hid hwA;have HB:=Lib.hid hB;clear hwA hB hbA hsA hv;cases r with
 |false=>
  go_enter Tryz.func16,Tryz.ntmps16
  go_wp2_with (rw[HWA.out,HB.out];with_reducible refine wpList_load_row rfl 25 _ rfl B rfl 25 X (0,0) _ hhA Tryz.underlying25 rfl HSX ?_)
  refine(CR _).mono ?_;rintro e x1 ⟨rfl,hb1⟩;have hend:=UP.out _ hb1
  go_wp2
  go_ret
  exact⟨by rw[HE.out];rfl,hend⟩
 |true=>
  go_enter Tryz.func16,Tryz.ntmps16
  go_wp2_with (rw[HWA.out,HB.out];with_reducible refine wpList_load_row rfl 25 _ rfl B rfl 25 X (0,0) _ hhA Tryz.underlying25 rfl HSX ?_)
  refine(CR _).mono ?_;rintro e x1 ⟨rfl,hb1⟩;have hend:=UP.out _ hb1;have f1:=FM.out _ hb1
  go_wp2
  go_ret
  exact⟨by rw[HE.out];rfl,hend⟩
structure Yq9 (B C P:Nat) (w0:World) (K:Int) (vc:Nat→Value) (gc:Nat→Nat) (F:Nat→Nat→Int) (x:World):Prop where
 can:Yl2 x B C K vc gc F
 pat:∃V:Array Value,V.size=384∧x.heap[P]? =some (.cells V 62 (0,0))
 low:Below B w0 x
 size:P<x.heap.size
 lt:∀p,p<3→gc p<P
 clt:C<P
section
variable {B C P:Nat}{w0 x y:World}{K:Int}{vc:Nat→Value}{gc:Nat→Nat}{F F':Nat→Nat→Int}{V:Array Value}
theorem Yq9.base (h:Yq9 B C P w0 K vc gc F x):B≤P∧B≤x.heap.size:=⟨by have:=h.can.low;have:=h.clt;omega,by have:=h.can.low;have:=h.clt;have:=h.size;omega⟩
theorem Yq9.below (h:Yq9 B C P w0 K vc gc F x)(hk:Yb6 K=true)(hb:Below x.heap.size x y):Yq9 B C P w0 K vc gc F y:=by
 obtain⟨V,hv,hh⟩:=h.pat;exact⟨h.can.below hk hb,⟨V,hv,(hb.block P h.size).trans hh⟩,h.low.trans (hb.mono h.base.2),Nat.lt_of_lt_of_le h.size hb.size,h.lt,h.clt⟩
theorem Yq9.put (h:Yq9 B C P w0 K vc gc F x)(hk:Yb6 K=true)(hg:x.grownBy y (some P))(hV:V.size=384)(hh:y.heap[P]? =some (.cells V 62 (0,0))):Yq9 B C P w0 K vc gc F y:=by
 refine⟨⟨(hg.block C (by have:=h.clt;have:=h.size;omega) (fun e=>by injection e with e;have:=h.clt;omega)).trans h.can.there,h.can.own.keep fun p hp=>hg.block _ ((h.can.own.pl p hp).lt (Yb4 hk p)) (fun e=>by injection e with e;have:=h.lt p hp;omega),h.can.low,h.can.far⟩,⟨V,hV,hh⟩,?_,Nat.lt_of_lt_of_le h.size hg.size,h.lt,h.clt⟩
 exact h.low.grown hg h.base.2 (fun k hk=>by injection hk with hk;have:=h.base.1;omega)
theorem Yq9.lay (h:Yq9 B C P w0 K vc gc F x)(hK:Yb3 gc x y)(hO:Ybu y B vc gc (siz K) F'):Yq9 B C P w0 K vc gc F' y:=by
 obtain⟨V,hv,hh⟩:=h.pat;exact⟨⟨(hK.block C (by have:=h.clt;have:=h.size;omega) h.can.far).trans h.can.there,hO,h.can.low,h.can.far⟩,⟨V,hv,(hK.block P h.size fun p hp=>by have:=h.lt p hp;omega).trans hh⟩,h.low.trans (hK.to_below h.base.2 hO.from_),Nat.lt_of_lt_of_le h.size hK.size,h.lt,h.clt⟩
end
def Y1d (B C bq oq:Nat)(X A:Array Value)(u:Value)(z:World):Prop:=z.heap[B]? =some (.cells X 25 (0,0))∧z.heap[C]? =some (.cells A 48 (0,0))∧z.cell? ⟨bq,oq,none⟩=some u
theorem Y1d.below {B C bq oq:Nat}{X A:Array Value}{u:Value}{z y:World}(h:Y1d B C bq oq X A u z)(hq:bq<z.heap.size)(hb:Below z.heap.size z y):Y1d B C bq oq X A u y:=
 ⟨(hb.block B (Array.getElem?_eq_some_iff.1 h.1).1).trans h.1,(hb.block C (Array.getElem?_eq_some_iff.1 h.2.1).1).trans h.2.1,(World.cell?_of_block (a:=⟨bq,oq,none⟩) (hb.block bq hq)).trans h.2.2⟩
theorem Y1d.grown {B C P bq oq:Nat}{X A:Array Value}{u:Value}{z y:World}(h:Y1d B C bq oq X A u z)(hq:bq<z.heap.size)(hg:z.grownBy y (some P))(h1:B≠P)(h2:C≠P)(h3:bq≠P):Y1d B C bq oq X A u y:=
 ⟨(hg.block B (Array.getElem?_eq_some_iff.1 h.1).1 (fun e=>by injection e with e;exact h1 e)).trans h.1,(hg.block C (Array.getElem?_eq_some_iff.1 h.2.1).1 (fun e=>by injection e with e;exact h2 e)).trans h.2.1,(World.cell?_of_block (a:=⟨bq,oq,none⟩) (hg.block bq hq (fun e=>by injection e with e;exact h3 e))).trans h.2.2⟩
theorem Ykx {P:Program}{o:Oper}{a:Act}{w:World}{K:Act→World→Prop}{Q:Exit→Act→World→Prop}(ty:TypeId)(x y:Operand)(ho:o.op=.store ty x y)
  (b:Nat)(Z old:Array Value)(hx:a.eval x=.pointer (some ⟨b,0,none⟩))(hy:a.eval y=.agg Z)(T:TypeId)(hg:w.heap[b]? =some (.cells old T (0,0)))(hi:(P.info? ty).map (·.size)=some Z.size)(hs:old.size=Z.size)(h1:Z.all (·.oneCell')=true)
  (h:∀w',w'.heap[b]? =some (.cells Z T (0,0))→w.grownBy w' (some b)→K (a.put o.dst undef) w'):o.wp P a w K Q:=
 wp_store_row ty x y ho b Z hx hy T old hg hi hs h1 (h _ (setRow_heap w b old Z T (0,0) hg) ⟨rfl,rfl,rfl,by simp,fun k _ hk=>setRow_other w b k _ (by intro e;exact hk (by rw[e]))⟩)
theorem Yrp {w:World}{c:Cel}{vs:List Value}(h:Yit w c vs)(hc:∀k,k<6→(c.ev k).length≤1048576):∃(p:Nat→Option Addr) (cap:Nat→Nat),vs=Ycd c (fun i=>.slice (p i) (c.ev i).length (cap i))∧Yea w c p (fun i=>(c.ev i).length):=by
 obtain⟨p,cap,h1,-,h3⟩:=h;exact⟨p,cap,h1,fun i hi=>⟨rfl,hc i hi,(h3 i hi).2⟩⟩
set_option maxRecDepth 1000000 in
set_option maxHeartbeats 8000000 in
theorem Yws (k:Int)(v:Nat→Value)(n:Nat→Nat)(f:Nat→Nat→Int)(S:ShP)(p b q:Option Addr)(ca cb cq:Nat)(w:World)(h:Yfs w v n f)(hn:S.rows.length≤maxLen)(hr:Ycu w b S.rows)(hq:Ydf w q (Yi6 S.hd.quant S.rows))(hc:∀c∈Yaw S,∀k,k<6→(c.ev k).length≤1048576)
  (hT:Yg6 w)(hS:Yb9 w)(hP:Ycl w)(hD:Ydo w)(hE:Yfn k n S=0):
  Calls Tryz.prog 17 #[.agg (frA k v),.agg (Yaz S.hd (.slice p S.hd.supp.length ca) (.slice b S.rows.length cb) S.zeros).toArray,.slice q (Yaw S).length cq] w fun e w'=>
   ∃v' g',e=.returned (.tuple #[.agg (frA S.hd.fmt v'),.int .i64 0])∧Ybu w' w.heap.size v' g' (siz S.hd.fmt) (Yhx k n f S (Yaw S).length)∧Below w.heap.size w w':=by
 obtain⟨hk,hcm,hql⟩:=Ygf hE;unfold maxLen at hn;have hmost:=Ydr S.hd.fmt;obtain⟨nr,hln⟩:∃nr,S.rows.length=nr:=⟨_,rfl⟩;rw[hln] at hn ⊢;obtain⟨zs,hZ⟩:∃zs,Yaz S.hd (.slice p S.hd.supp.length ca) (.slice b nr cb) S.zeros=zs:=⟨_,rfl⟩;have z2:zs[2]? =some (.int .i64 S.hd.fmt):=by rw[←hZ];rfl
 have z6:zs[6]? =some (.slice b nr cb):=by rw[←hZ];rfl
 rw[hZ];obtain⟨B,wA,wB,wC,hB,hwA,hwB,hwC,hzA,hzB,hzC,hC0,hC1,hC2,hbC⟩:=Yjt w (.cells (frA k v) 25 (0,0)) (.cells zs.toArray 29 (0,0)) (.cells (frA 0 Ycf) 25 (0,0));have hup:∀x,Below (B+3) wC x→Below w.heap.size w x:=fun x hx=>hB▸hbC.trans (hx.mono (by omega));have CO:=Y2g S.hd.fmt wC hk;rw[hzC] at CO
 have CR:=Lib.hid (fun(m:Nat) (hm:m<(Yaw S).length) (p:Nat→Option Addr) (nn kk:Nat→Nat) (x:World) (hx:Below (B+3) wC x) (hi:Yea x (Yi9 S m) p nn)=>(by
  have h1:=Yt2 k v n f (m:Int) (Yi9 S m) p nn kk (Ysf S m) x (h.below (hup x hx)) hi (hT.below (hup x hx)) (hS.below (hup x hx)) (hP.below (hup x hx)) (hD.below (hup x hx));unfold Yf7 at h1;rw[(Yj7 (f:=f) hE hm).1] at h1
  exact h1:Calls Tryz.prog 30 #[.agg (frA k v),.int .i64 (m:Int),.agg (Ycd (Yi9 S m) fun i=>.slice (p i) (nn i) (kk i)).toArray,.int .i64 (Ysf S m)] x fun e y=>e=.returned (.tuple #[.agg (arn 384 (Yo9 k n f S m)),.int .i64 0])∧Below x.heap.size x y))
 have CL:=Lib.hid (fun(m:Nat) (hm:m<(Yaw S).length) (C:Nat) (vc:Nat→Value) (gc:Nat→Nat) (x:World) (hx:Yl2 x (B+3) C S.hd.fmt vc gc (Yhx k n f S m))=>Yzy S.hd.fmt C (B+3) vc gc (Yhx k n f S m) m (Yo9 k n f S m) x hx.there hx.own hx.far (by rw[←hcm];exact hm))
 have CF:=Lib.hid (fun(C:Nat) (vc:Nat→Value) (gc:Nat→Nat) (F:Nat→Nat→Int) (x:World) (hx:Yl2 x (B+3) C S.hd.fmt vc gc F)=>Ytg S.hd.fmt (B+3) C vc gc F x hk hx);have GN:Hid (∀m:Nat,Yhx k n f S (m+1)=Ygi S.hd.fmt m (Yo9 k n f S m) (Yhx k n f S m) 384):=Lib.hid fun _=>rfl;have G0:Hid (Yhx k n f S 0=fun _ _=>0):=Lib.hid rfl
 have C0:=Lib.hid (fun(x:World) (hx:Below (B+3) wC x)=>((hx.block B (by omega)).trans hC0:x.heap[B]? =some (.cells (frA k v) 25 (0,0))));have K2:=Lib.hid (fun(x:World) (hx:Below (B+3) wC x)=>(Yac ((hx.block (B+1) (by omega)).trans hC1) z2:x.cell? ⟨B+1,2,none⟩=some (.int .i64 S.hd.fmt)))
 have K6:=Lib.hid (fun(x:World) (hx:Below (B+3) wC x)=>(Yac ((hx.block (B+1) (by omega)).trans hC1) z6:x.cell? ⟨B+1,6,none⟩=some (.slice b nr cb)));have R2:=Lib.hid (fun(x:World) (hx:Below (B+3) wC x)=>((hx.block (B+2) (by omega)).trans hC2:x.heap[B+2]? =some (.cells (frA 0 Ycf) 25 (0,0))));have UP:=Lib.hid hup;have HSX:=Ya1 Ybh k v;have SIZ:=Lib.hid (fun(g:Nat→Int)=>Ybr g)
 have ONE:=Lib.hid (fun(g:Nat→Int)=>Ybd 384 g);have S384:=Lib.hid (fun(g:Nat→Int)=>Yan 384 g);have SOM:=Lib.hid (fun p=>Yb4 hk p);have hz0:=Ydl;have hFz:∀w,(zeroValue 25).run Tryz.prog w=.ok (.agg (frA 0 Ycf)) w:=Yg1;have HYF:(frA 0 Ycf).size=4:=rfl;have hY0:(arn 384 fun _=>0).size=384:=Yan _ _;obtain⟨Yr,HYRS,hzr⟩:=Yhq;obtain⟨Yc,HYS,hzv⟩:=Yfv;have HK:=Lib.hid hk;have HR:=Lib.hid hr
 have HQ:=Lib.hid hq;have QL:=Lib.hid hql;have NR:=Lib.hid hln;have HCC:=Lib.hid hc;have CAT:=Lib.hid (fun i j (hi:i<S.rows.length) hj=>Y2s (S:=S) (i:=i) (j:=j) hi hj);have LEN:=Lib.hid (fun i (hi:i<S.rows.length)=>Yvu (S:=S) hi);have ALL:=Lib.hid (congrArg List.length (Yhh S hln));have hN:(Yaw S).length≤6336:=by rw[hcm];exact hmost
 obtain⟨N,hNN⟩:∃N,(Yaw S).length=N:=⟨_,rfl⟩;rw[hNN] at CR CL hN QL CAT ALL ⊢;generalize hXX:frA k v=X at *;generalize hYY:frA 0 Ycf=YF at *;generalize (arn 384 fun _=>0)=Y at *;obtain⟨K,hKK⟩:∃K,S.hd.fmt=K:=⟨_,rfl⟩;rw[hKK] at CO CL CF GN K2 SOM HK ⊢;have HWA:=Lib.hid hwA;have HWB:=Lib.hid hwB;have HWC:=Lib.hid hwC;have HB:=Lib.hid hB;have HBC:=Lib.hid hbC;have HZC:=Lib.hid hzC
 have hS0:Below (B+3) wC wC:=Below.refl _ _;clear hwA hwB hwC hB hzA hzB hzC hC0 hC1 hC2 hbC hup z2 z6 hZ hln hcm hql hmost hk hc hr hq h hT hS hP hD hE hNN hKK hXX hYY
 go_enter Tryz.func17,Tryz.ntmps17
 go_wp2_with fail
 rw[HWA.out,HB.out,HWB.out,HWC.out];have ck1:=K2.out wC hS0
 go_step3
 go_wp2_with fail
 refine CO.mono ?_;rintro e x ⟨C,vc,gc,rfl,hcan,hbx⟩;obtain⟨P,x1,hP,hx1,hs1,M1⟩:=Ymt hbx (by have:=HZC.out;omega) Y;have hbx1:Below x.heap.size x x1:=by rw[←hx1];exact(Below.refl _ x).alloc (Nat.le_refl _) _
 have A0:=Lib.hid (⟨(hcan.below HK.out hbx1),⟨Y,hY0,M1.cell⟩,M1.low,by omega,fun p hp=>by rw[←hP];exact(hcan.own.pl p hp).lt (SOM.out p),by rw[←hP];exact(Array.getElem?_eq_some_iff.1 hcan.there).1⟩:Yq9 (B+3) C P wC K vc gc (fun _ _=>0) x1);rw[←G0.out] at A0;have k6:=K6.out x1 M1.low;rw[←hx1] at k6;have HX1:=Lib.hid hx1;have HPP:=Lib.hid hP;clear hcan hbx hx1 hP hs1 M1 hbx1 ck1 CO
 go_wp2
 go_step3
 go_wp2
 rw[HX1.out,HPP.out];clear k6
 go_loopw [9,11,25] (fun er nn t wr=>∃i:Nat,t=.int .i64 (i:Int)∧i≤nr∧er=.int .i64 0∧nn=.int .i64 (((Yds S i).length:Nat):Int)∧Hid (Yq9 (B+3) C P wC K vc gc (Yhx k n f S (Yds S i).length) wr)) (fun _ _ t _=>nr-(RowKit.intOf t).toNat)
 case atStart=>exact⟨0,rfl,Nat.zero_le _,rfl,rfl,A0⟩
 case round=>
  clear A0;obtain⟨i,rfl,hi,rfl,rfl,hA⟩:=hrel;by_cases hlt:i<nr
  ·have t1:decide ((i:Int)<(nr:Int))=true:=by simp;omega
   have hbw:=UP.out _ hA.out.low;obtain⟨b1,o1,rfl,hb1,hc1⟩:=Ye3 HR.out (by rw[NR.out];omega);have hil:i<S.rows.length:=by rw[NR.out];exact hlt
   obtain⟨r,cap,hq,hml,hcel,hat⟩:=hc1 i hil;unfold maxLen at hml;obtain⟨rs,hrs⟩:∃rs,[Value.bool S.rows[i].head,.int .i64 S.rows[i].id,.int .i64 S.rows[i].quant,.slice r S.rows[i].cels.length cap]=rs:=⟨_,rfl⟩;have r3:rs[3]? =some (.slice r S.rows[i].cels.length cap):=by rw[←hrs];rfl
   have rl:rs.length=4:=by rw[←hrs];rfl
   have ro:rs.toArray.all (·.oneCell')=true:=by rw[←hrs];simp[Value.oneCell']
   have hrg:wr.rangeAt b1 (o1+i*4) rs:=fun k v hk=>by
    obtain⟨a0,a1,a2,a3⟩:=hat wr hbw;rw[←hrs] at hk
    match k,hk with
    |0,hk=>injection hk with hk;subst hk;exact a0
    |1,hk=>injection hk with hk;subst hk;exact a1
    |2,hk=>injection hk with hk;subst hk;exact a2
    |3,hk=>injection hk with hk;subst hk;exact a3
   have HSR:(Tryz.prog.info? 42).map (·.size)=some rs.toArray.size:=by rw[show rs.toArray.size=4 from rl];kernel_rfl
   have HYR:Yr.size=rs.toArray.size:=by rw[HYRS];exact rl.symm
   have CT:=Lib.hid (fun j (hj:j<S.rows[i].cels.length)=>CAT.out i j hil hj);have LN:=Lib.hid (LEN.out i hil);have CEV:=Lib.hid (fun j (hj:j<S.rows[i].cels.length)=>HCC.out _ (List.mem_flatMap.2 ⟨S.rows[i],List.getElem_mem hil,List.getElem_mem hj⟩:S.rows[i].cels[j]∈Yaw S));clear hat hc1 hrs;obtain⟨L,hL⟩:∃L,(Yds S i).length=L:=⟨_,rfl⟩;rw[hL] at hA CT LN ⊢;generalize S.rows[i].cels=m at *;clear hL
   obtain⟨R,hR⟩:∃R,wr.heap.size=R:=⟨_,rfl⟩;obtain⟨wR,hwR⟩:∃wR,wr.alloc (.cells rs.toArray 42 (0,0))=wR:=⟨_,rfl⟩;have hhR:wR.heap[R]? =some (.cells rs.toArray 42 (0,0)):=by rw[←hwR,←hR];exact heap_alloc_new wr _
   have hbR:Below wr.heap.size wr wR:=by rw[←hwR];exact(Below.refl _ wr).alloc (Nat.le_refl _) _
   have A1:=Lib.hid (hA.out.below HK.out hbR);have k3:wR.cell? ⟨R,3,none⟩=some (.slice r m.length cap):=Yac hhR r3;have HWR:=Lib.hid hwR;have HRR:=Lib.hid hR;have HCEL:=Lib.hid hcel;clear hwR hbR hA hbw hcel r3 hR hhR
   go_wp2_with (first|(with_reducible refine Ye4 rfl _ rfl b1 (o1+i*4) rfl rs hrg rl ?_)|(with_reducible refine Yai rfl 42 _ _ rfl rs.toArray Yr 42 rfl rfl HSR HYR ro ?_;rw[HWR.out,HRR.out]))
   clear k3 hrg HSR HYR ro rl
   go_loopw [9,11,32] (fun er nn t wr=>∃j:Nat,t=.int .i64 (j:Int)∧j≤m.length∧er=.int .i64 0∧nn=.int .i64 ((L+j:Nat):Int)∧Hid (Yq9 (B+3) C P wC K vc gc (Yhx k n f S (L+j)) wr)) (fun _ _ t _=>m.length-(RowKit.intOf t).toNat)
   case atStart=>exact⟨0,rfl,Nat.zero_le _,rfl,rfl,A1⟩
   case round=>
    clear A1;obtain⟨j,rfl,hj,rfl,rfl,hA⟩:=hrel;by_cases hjm:j<m.length
    ·have t2:decide ((j:Int)<(m.length:Int))=true:=by simp;omega
     have hml2:m.length≤9223372036854775807:=by omega
     have hbw:=UP.out _ hA.out.low;obtain⟨b2,o2,rfl,hb2,hcv⟩:=Yby.each HCEL.out (by omega);obtain⟨vs,hV,hvc⟩:=hcv j hjm;have hl18:=hV.shape.1;have hone:=Yfz hV;have hrg:wr.rangeAt b2 (o2+j*18) vs:=fun k v hk=>hvc wr hbw k v hk;obtain⟨E1,E2⟩:=CT.out j hjm;obtain⟨p3,cap3,hvs,hci⟩:=Yrp hV (CEV.out j hjm);rw[←E1] at hvs hci;obtain⟨M,hM⟩:∃M,L+j=M:=⟨_,rfl⟩;rw[hM] at hA E1 E2 hvs hci ⊢
     have HM:=Lib.hid hM;obtain⟨bq,oq,rfl,hbq,hqc⟩:=HQ.out.hold (by rw[QL.out];omega);have cr:=CR.out M E2 p3 (fun i=>((Yi9 S M).ev i).length) cap3;rw[←hvs] at cr;obtain⟨D,hD⟩:∃D,wr.heap.size=D:=⟨_,rfl⟩;obtain⟨wD,hwD⟩:∃wD,wr.alloc (.cells vs.toArray 48 (0,0))=wD:=⟨_,rfl⟩;have hhD:wD.heap[D]? =some (.cells vs.toArray 48 (0,0)):=by rw[←hwD,←hD];exact heap_alloc_new wr _
     have hbD:Below wr.heap.size wr wD:=by rw[←hwD];exact(Below.refl _ wr).alloc (Nat.le_refl _) _
     have A2:=hA.out.below HK.out hbD;have lowD:=A2.low;have hqz:bq<B:=by rw[←HB.out];exact hbq
     have hzD:B+3≤wD.heap.size:=A2.base.2;have hPD:P<D:=by rw[←hD];exact hA.out.size
     have hBP:=A2.base.1;have ld:Y1d B D bq (oq+M) X vs.toArray (.int .i64 (Ysf S M)) wD:=⟨C0.out wD lowD,hhD,hqc wD (UP.out _ lowD) M (by rw[QL.out];exact E2)⟩;have HSV:(Tryz.prog.info? 48).map (·.size)=some vs.toArray.size:=by rw[show vs.toArray.size=18 from hl18];kernel_rfl
     have HYV:Yc.size=vs.toArray.size:=by rw[HYS];exact hl18.symm
     have CI:=Lib.hid (fun(x:World) (hx:Below wD.heap.size wD x)=>cr x (lowD.trans (hx.mono hzD)) (hci.below (UP.out x (lowD.trans (hx.mono hzD)))));have cl:=CL.out M E2 C vc gc;have gn:=Lib.hid (GN.out M);have HSU:=SIZ.out (Yo9 k n f S M);have HOU:=ONE.out (Yo9 k n f S M);have SU:=S384.out (Yo9 k n f S M);have SUH:=Lib.hid SU;generalize hU:arn 384 (Yo9 k n f S M)=U at CI cl HSU HOU SU SUH
     clear hU;have ml2:M<N:=E2;have mlN:N≤9223372036854775807:=by omega
     have HDD:=Lib.hid hD;have HWD:=Lib.hid hwD;have A2H:=Lib.hid A2;have LDH:=Lib.hid ld;have PDH:=Lib.hid hPD;have BPH:=Lib.hid hBP;have QZH:=Lib.hid hqz;have ZDH:=Lib.hid hzD;generalize Ysf S M=qm at *;clear hD hwD hbD A2 hvs hci cr hcv hvc hqc hV hA hbw lowD ld hPD hBP hqz hzD hhD hM E1 E2
     go_wp2_with (first|(with_reducible refine Ydn rfl _ rfl b2 (o2+j*18) rfl vs hrg hl18 ?_)|(with_reducible refine Yai rfl 48 _ _ rfl vs.toArray Yc 48 rfl rfl HSV HYV hone ?_;rw[HWD.out,HDD.out]))
     have hqD:bq<wD.heap.size:=by have:=ZDH.out;have:=QZH.out;omega
     refine wp_region_held_drew (S:=Y1d B D bq (oq+M) X vs.toArray (.int .i64 qm)) (by kernel_rfl) (LDH.out.below hqD (Below.refl _ wD).drew) (fun hH=>?_)
     refine Yas 0 (some 37) (v:=.agg X) rfl rfl (by kernel_rfl) (by kernel_rfl) (by kernel_rfl) (fun _ _ _ h=>h) hH (Or.inl ⟨by kernel_rfl,fun x hx=>Ybz (ty:=25) (x:=.tmp 3) (ad:=⟨B,0,none⟩) (by kernel_rfl) (by kernel_rfl) (run_loadVar_row x B _ _ X (0,0) _ hx.1 Tryz.underlying25 rfl HSX)⟩) ?_
     try simp only[Yaa]
     refine Yav 1 (some 38) hH ?_
     try simp only[Yaa]
     refine Yas 2 (some 39) (v:=.agg vs.toArray) rfl rfl (by kernel_rfl) (by kernel_rfl) (by kernel_rfl) (fun _ _ _ h=>h) hH (Or.inl ⟨by kernel_rfl,fun x hx=>Ybz (ty:=48) (x:=.tmp 15) (ad:=⟨D,0,none⟩) (by kernel_rfl) (by kernel_rfl) (run_loadVar_row x D _ _ vs.toArray (0,0) _ hx.2.1 Tryz.underlying48 rfl HSV)⟩) ?_
     try simp only[Yaa]
     refine Yav 3 (some 40) hH ?_
     try simp only[Yaa]
     refine Yav 4 (some 41) hH ?_
     try simp only[Yaa]
     refine Yc7 5 (some 42) (v:=.pointer (some ⟨bq,oq+M,none⟩)) rfl rfl hH (by kernel_rfl) (fun x _=>by go_simp;try with_reducible rfl) ?_
     try simp only[Yaa]
     refine Yc7 6 (some 43) (v:=.int .i64 qm) rfl rfl hH (by kernel_rfl) (fun x hx=>by have c0:=hx.2.2;go_simp) ?_
     try simp only[Yaa]
     refine wpAnyH_ready (rs:=[7]) (by kernel_rfl) (by simp) ?_;refine AllReadyH.cons rfl (fun K hK=>?_) AllReadyH.nil
     go_simp
     go_wp2_with fail
     refine(CI.out _ (Below.refl _ wD).drew).mono ?_;rintro e w3 ⟨rfl,hb3⟩;have hb3':Below wD.heap.size wD w3:=(Below.refl _ wD).drew.trans hb3;have A3:=A2H.out.below HK.out hb3';have ld3:=LDH.out.below hqD hb3';have hq3:bq<w3.heap.size:=by have:=hb3'.size;omega
     refine hK.out _ _ ld3 (fun hH2=>?_);clear hK K hH hb3;have hH:=hH2;clear hH2
     try simp only[Yaa]
     refine Yav 8 (some 36) hH ?_
     try simp only[Yaa]
     refine Yav 9 (some 45) hH ?_
     try simp only[Yaa]
     refine Yav 10 (some 46) hH ?_
     try simp only[Yaa]
     obtain⟨V0,hV0,hh0⟩:=A3.pat;refine wpAnyH_ready (rs:=[11]) (by kernel_rfl) (by simp) ?_;refine AllReadyH.cons rfl (fun K hK=>?_) AllReadyH.nil;refine(if_pos (by kernel_rfl)).mpr ?_;refine Ykx 62 _ _ rfl P U V0 rfl rfl 62 hh0 HSU (by rw[hV0,SUH.out]) HOU ?_;intro w4 hh4 hg4;have ld4:=ld3.grown hq3 hg4 (by have:=BPH.out;omega) (by have:=PDH.out;omega) (by have:=BPH.out;have:=QZH.out;omega)
     refine hK.out _ _ ld4 (fun hH2=>?_);clear hK K hH;have hH:=hH2;clear hH2
     try simp only[Yaa]
     refine Yav 12 (some 9) hH ?_
     try simp only[Yaa]
     refine wpAnyH_done (by kernel_rfl) ?_ _;have A4:=A3.put HK.out hg4 SUH.out hh4;have cl4:=cl w4 A4.can;have A4H:=Lib.hid A4;clear hH ld3 ld4 hg4 A3 A4 hh0 hb3' hq3 hqD cl CI
     go_wp2_with (with_reducible refine wpList_load_row rfl 62 _ rfl P rfl 62 U (0,0) _ hh4 Tryz.underlying62 rfl HSU ?_)
     refine cl4.mono ?_;rintro e w5 ⟨rfl,hK5,hO5⟩;have A5:=A4H.out.lay hK5 hO5;rw[←gn.out] at A5;have A5H:=Lib.hid A5;clear A5 hK5 hO5 cl4 hh4
     go_wp2
     go_roundw
     case rel=>exact⟨j+1,by go_num,by omega,rfl,by rw[show L+(j+1)=M+1 by have:=HM.out;omega];go_num,by rw[show L+(j+1)=M+1 by have:=HM.out;omega];exact A5H⟩
     case measure=>simp[RowKit.intOf];omega
    ·obtain rfl:m.length=j:=by omega
     have t2:decide ((m.length:Int)<(m.length:Int))=false:=by simp
     rw[←LN.out] at hA ⊢
     go_wp2
     go_roundw
     case rel=>exact⟨i+1,by go_num,by omega,rfl,rfl,hA⟩
     case measure=>simp[RowKit.intOf];omega
  ·obtain rfl:nr=i:=by omega
   have t1:decide ((nr:Int)<(nr:Int))=false:=by simp
   rw[ALL.out] at hA;have cf:=CF.out C vc gc _ wr hA.out.can;have r2:=R2.out wr hA.out.low;have hzw:B+3≤wr.heap.size:=hA.out.base.2;have hup:=Lib.hid (fun(y:World) (hy:Below wr.heap.size wr y)=>UP.out y (hA.out.low.trans (hy.mono hzw)));clear hA
   go_wp2_with fail
   refine cf.mono ?_;rintro e w2 ⟨v',g',rfl,hO,hb2⟩;have d2:=(hb2.block (B+2) (by omega)).trans r2;have HSV:=Ya1 Ybh K v';have HOV:=Ycx K v' hO.ones;have HYV:YF.size=(frA K v').size:=HYF;have HO:=Lib.hid hO;have hu2:=hup.out _ hb2;have hz2:=hb2.size;obtain⟨ZF,hZF⟩:∃ZF,frA K v'=ZF:=⟨_,rfl⟩;rw[hZF] at HSV HOV HYV ⊢;have HZF:=Lib.hid hZF;clear hO hZF hb2
   go_wp2_with (with_reducible refine Yae rfl 25 _ _ rfl (B+2) ZF YF rfl rfl 25 d2 HSV HYV HOV ?_;intro w5 hh5 hg5)
   rw[Exit.noGoto_ret];refine bodyPost_ret (Yao rfl _ _ (B+2) 25 _ (0,0) _ rfl hh5 Tryz.underlying25 rfl HSV) rfl ?_;refine⟨v',g',by rw[HZF.out];rfl,?_,hu2.grown hg5 (by have:=hu2.size;omega) (fun k hk=>by injection hk with hk;have:=HB.out;omega)⟩;refine(HO.out.mono (by have:=HB.out;omega)).keep fun p hp=>hg5.block _ ((HO.out.pl p hp).lt (SOM.out p)) ?_;have:=HO.out.from_ p hp;intro e
   injection e with e;omega
structure Yu4 (w:World) (S:ShP) (p b:Option Addr):Prop where
 supp:S.hd.supp.length≤maxLen
 rows:S.rows.length≤1048576
 ints:Ydf w p S.hd.supp
 rin:Ycu w b S.rows
 many:(Yaw S).length≤1048576
 evs:∀c∈Yaw S,∀k,k<6→(c.ev k).length≤1048576
 asks:Yd9 w S.hd.inter
 t:Yg6 w
 st:Yb9 w
 sc:Ycl w
 dc:Ydo w
theorem Yu4.below {w x:World}{S:ShP}{p b:Option Addr}(h:Yu4 w S p b)(hb:Below w.heap.size w x):Yu4 x S p b:=
 ⟨h.supp,h.rows,h.ints.below hb,h.rin.below hb,h.many,h.evs,h.asks.below hb,h.t.below hb,h.st.below hb,h.sc.below hb,h.dc.below hb⟩
theorem Yu4.of {w:World}{S:ShP}{p b:Option Addr}(h:Yu4 w S p b)(ca cb:Nat):Calls Tryz.prog 15 #[.agg (Yaz S.hd (.slice p S.hd.supp.length ca) (.slice b S.rows.length cb) S.zeros).toArray] w (Yjd (Yqf S) (Yb0 S) w):=
 Ytz S p b ca cb w h.supp h.rows h.ints h.rin h.many h.evs h.asks
def Yha (K:Int)(F:Nat→Nat→Int)(w:World)(e:Ending)(w':World):Prop:=
 ∃v' g',e=.returned (.tuple #[.agg (frA K v'),.int .i64 0])∧Ybu w' w.heap.size v' g' (siz K) F∧Below w.heap.size w w'
set_option maxRecDepth 1000000 in
set_option maxHeartbeats 8000000 in
theorem Yem (k:Int)(v:Nat→Value)(n:Nat→Nat)(f:Nat→Nat→Int)(S:ShP)(p b:Option Addr)(ca cb:Nat)(w:World)(h:Yfs w v n f)(hI:Yu4 w S p b):
  (Yfn k n S≠0→Calls Tryz.prog 8 #[.agg (frA k v),.agg (Yaz S.hd (.slice p S.hd.supp.length ca) (.slice b S.rows.length cb) S.zeros).toArray] w fun e w'=>e=.returned (.tuple #[.agg (frA 0 Ycf),.int .i64 (Yfn k n S)])∧Below w.heap.size w w')∧
  (Yfn k n S=0→Calls Tryz.prog 8 #[.agg (frA k v),.agg (Yaz S.hd (.slice p S.hd.supp.length ca) (.slice b S.rows.length cb) S.zeros).toArray] w (Yha S.hd.fmt (Yhx k n f S (Yaw S).length) w)):=by
 have CO0:=fun x hx=>(hI.below hx).of ca cb (w:=x);have LD0:=fun(hE:Yfn k n S=0) x hx q cq hq=>Yws k v n f S p b q ca cb cq x (h.below hx) (by have:=hI.rows;unfold maxLen;omega) (hI.rin.below hx) hq hI.evs (hI.t.below hx) (hI.st.below hx) (hI.sc.below hx) (hI.dc.below hx) hE;obtain⟨zs,hZ⟩:∃zs,Yaz S.hd (.slice p S.hd.supp.length ca) (.slice b S.rows.length cb) S.zeros=zs:=⟨_,rfl⟩
 have z2:zs[2]? =some (.int .i64 S.hd.fmt):=by rw[←hZ];rfl
 have z3:zs[3]? =some (.bool S.hd.inter):=by rw[←hZ];rfl
 have HSZ:(Tryz.prog.info? 29).map (·.size)=some zs.toArray.size:=by rw[show zs.toArray.size=8 by rw[←hZ];rfl];kernel_rfl
 rw[hZ] at CO0 LD0 ⊢;obtain⟨B,wA,wB,wC,hB,hwA,hwB,hwC,hzA,hzB,hzC,hC0,hC1,hC2,hbC⟩:=Yjt w (.cells (frA k v) 25 (0,0)) (.cells zs.toArray 29 (0,0)) (.cells (frA 0 Ycf) 25 (0,0));have hup:∀x,Below (B+3) wC x→Below w.heap.size w x:=fun x hx=>hB▸hbC.trans (hx.mono (by omega));have UP:=Lib.hid hup
 have C0:=Lib.hid (fun(x:World) (hx:Below (B+3) wC x)=>((hx.block B (by omega)).trans hC0:x.heap[B]? =some (.cells (frA k v) 25 (0,0))));have C1:=Lib.hid (fun(x:World) (hx:Below (B+3) wC x)=>((hx.block (B+1) (by omega)).trans hC1:x.heap[B+1]? =some (.cells zs.toArray 29 (0,0))))
 have K2:=Lib.hid (fun(x:World) (hx:Below (B+3) wC x)=>(Yac ((hx.block (B+1) (by omega)).trans hC1) z2:x.cell? ⟨B+1,2,none⟩=some (.int .i64 S.hd.fmt)));have K3:=Lib.hid (fun(x:World) (hx:Below (B+3) wC x)=>(Yac ((hx.block (B+1) (by omega)).trans hC1) z3:x.cell? ⟨B+1,3,none⟩=some (.bool S.hd.inter)))
 have R2:=Lib.hid (fun(x:World) (hx:Below (B+3) wC x)=>((hx.block (B+2) (by omega)).trans hC2:x.heap[B+2]? =some (.cells (frA 0 Ycf) 25 (0,0))));have HSX:=Ya1 Ybh k v;have HSN:=Ya1 Ybh 0 Ycf;have HON:=Ycx 0 Ycf (fun _ _=>rfl);have hFz:∀w,(zeroValue 25).run Tryz.prog w=.ok (.agg (frA 0 Ycf)) w:=Yg1;have CO:=CO0 wC (hup wC (Below.refl _ _))
 have LD:=Lib.hid (fun hE (x:World) (hx:Below (B+3) wC x)=>LD0 hE x (hup x hx));have AH:=Lib.hid (fun(x:World)=>Ysr k S.hd.fmt v n x h.slices);have QL:=Lib.hid (fun(hE:Yfn k n S=0)=>(Ygf hE).2.2);have HYF:(frA 0 Ycf).size=4:=rfl;have SOM:=Lib.hid (fun(hE:Yfn k n S=0) (p:Nat)=>Yb4 (Ygf hE).1 p);unfold Yjd at CO;rw[hzC] at CO;have h1:=hC1;have HWA:=Lib.hid hwA;have HWB:=Lib.hid hwB
 have HWC:=Lib.hid hwC;have HB:=Lib.hid hB;have HZC:=Lib.hid hzC;generalize frA k v=X at *;clear hwA hwB hwC hB hC0 hC1 hC2 hzA hzB hzC hbC hup CO0 LD0 z2 z3 hZ h hI;by_cases h0:Yb0 S=0
 case neg=>
  refine⟨fun _=>?_,fun hE=>absurd (Yhs hE).1 h0⟩;rw[Y0s h0];generalize Yb0 S=E at *;have t1:(E != 0)=true:=by simpa [bne] using h0
  clear h0 LD AH QL SOM K2 K3
  go_enter Tryz.func8,Tryz.ntmps8
  go_wp2_with (rw[HWA.out,HB.out,HWB.out,HWC.out];with_reducible refine wpList_load_row rfl 29 _ rfl (B+1) rfl 29 zs.toArray (0,0) _ h1 Tryz.underlying29 rfl HSZ ?_)
  refine CO.mono ?_;rintro e x1 ⟨vq,rfl,-,hb1⟩;have r2:=R2.out _ hb1;have hu:=UP.out _ hb1;clear CO h1
  go_wp2_with (refine Yae rfl 25 _ _ rfl (B+2) (frA 0 Ycf) (frA 0 Ycf) rfl rfl 25 r2 HSN rfl HON ?_;intro w5 hh5 hg5)
  refine bodyPost_ret (Yao rfl _ _ (B+2) 25 _ (0,0) _ rfl hh5 Tryz.underlying25 rfl HSN) rfl ?_;exact⟨rfl,hu.grown hg5 (by have:=hu.size;omega) (fun k hk=>by injection hk with hk;have:=HB.out;omega)⟩
 rw[h0,Ysa h0] at CO;have HH0:=Lib.hid h0;obtain⟨inter,hin⟩:∃i,S.hd.inter=i:=⟨_,rfl⟩;obtain⟨ah,hah⟩:∃i,Ygn k n S.hd.fmt=i:=⟨_,rfl⟩;rw[hin] at K3;rw[hah] at AH;have hgo:inter=false∨ah=true∨(inter=true∧ah=false):=by cases inter <;> cases ah <;> simp
 have EN:=Lib.hid (fun(hi:inter=true) (ha:ah=false)=>Yui h0 (hin.trans hi) (hah.trans ha));have EI:=Lib.hid (fun(hi:inter=false)=>Yuj (k:=k) (n:=n) h0 (hin.trans hi));have EA:=Lib.hid (fun(ha:ah=true)=>Yuh h0 (hah.trans ha));generalize S.hd.fmt=K at *;clear hin hah h0;by_cases hF:inter=true∧ah=false
 case pos=>
  obtain⟨rfl,rfl⟩:=hF;have e11:=EN.out rfl rfl;refine⟨fun _=>?_,fun hE=>absurd (hE.symm.trans e11) (by decide)⟩;rw[e11];clear e11 EN EI EA QL SOM LD
  go_enter Tryz.func8,Tryz.ntmps8
  go_wp2_with (rw[HWA.out,HB.out,HWB.out,HWC.out];with_reducible refine wpList_load_row rfl 29 _ rfl (B+1) rfl 29 zs.toArray (0,0) _ h1 Tryz.underlying29 rfl HSZ ?_)
  refine CO.mono ?_;rintro e x1 ⟨vq,rfl,-,hb1⟩;have k2:=K2.out _ hb1;have k3:=K3.out _ hb1;have c0:=C0.out _ hb1;clear CO h1
  go_wp2_with (with_reducible refine Yam (by kernel_rfl) 25 _ rfl B rfl 25 X (0,0) _ c0 Tryz.underlying25 rfl HSX ?_)
  refine(AH.out _).mono ?_;rintro e x2 ⟨rfl,hb2⟩;have hb12:=hb1.trans (hb2.mono (by have:=hb1.size;have:=HZC.out;omega));have r2:=R2.out _ hb12;have hu:=UP.out _ hb12;have hz:=hb12.size;rw[HZC.out] at hz;clear hb12 hb1 hb2 c0 k2 k3
  go_wp2_with (refine Yae rfl 25 _ _ rfl (B+2) (frA 0 Ycf) (frA 0 Ycf) rfl rfl 25 r2 HSN rfl HON ?_;intro w5 hh5 hg5)
  refine bodyPost_ret (Yao rfl _ _ (B+2) 25 _ (0,0) _ rfl hh5 Tryz.underlying25 rfl HSN) rfl ?_;exact⟨rfl,hu.grown hg5 (by have:=hu.size;omega) (fun k hk=>by injection hk with hk;have:=HB.out;omega)⟩
 have hE:Yfn k n S=0:=by
  cases inter with
  |false=>exact EI.out rfl
  |true=>
   cases ah with
   |true=>exact EA.out rfl
   |false=>exact absurd ⟨rfl,rfl⟩ hF
 refine⟨fun h=>absurd hE h,fun _=>?_⟩;have HE:=Lib.hid hE;have hql:=QL.out hE;clear hE EN EI EA QL hgo;cases inter with
 |false=>
  go_enter Tryz.func8,Tryz.ntmps8
  go_wp2_with (rw[HWA.out,HB.out,HWB.out,HWC.out];with_reducible refine wpList_load_row rfl 29 _ rfl (B+1) rfl 29 zs.toArray (0,0) _ h1 Tryz.underlying29 rfl HSZ ?_)
  refine CO.mono ?_;rintro e x1 ⟨vq,rfl,ho,hb1⟩;rw[hql] at ho;obtain⟨q,cap,rfl,hi⟩:=Yiz hql ho;have k3:=K3.out _ hb1;clear ho hF h1 hql AH;have c0:=C0.out _ hb1;have c1:=C1.out _ hb1;have ld:=LD.out HE.out _ hb1 q cap hi;have hu:=Lib.hid (fun(y:World) (hy:Below x1.heap.size x1 y)=>UP.out y (hb1.trans (hy.mono (by have:=hb1.size;have:=HZC.out;omega))));have r2:=R2.out _ hb1;have hz:=hb1.size
  rw[HZC.out] at hz;clear hb1 hi CO
  go_wp2_with (first|(with_reducible refine wpList_load_row rfl 25 _ rfl B rfl 25 X (0,0) _ c0 Tryz.underlying25 rfl HSX ?_)|(with_reducible refine wpList_load_row rfl 29 _ rfl (B+1) rfl 29 zs.toArray (0,0) _ c1 Tryz.underlying29 rfl HSZ ?_))
  refine ld.mono ?_;rintro e y ⟨v',g',rfl,hO,hby⟩;have d2:=(hby.block (B+2) (by omega)).trans r2;have hu2:=hu.out _ hby
  have hz2:=hby.size;have HSV:=Ya1 Ybh K v';have HOV:=Ycx K v' hO.ones;have HYV:(frA 0 Ycf).size=(frA K v').size:=rfl;have HO:=Lib.hid hO;obtain⟨ZF,hZF⟩:∃ZF,frA K v'=ZF:=⟨_,rfl⟩;rw[hZF] at HSV HOV HYV ⊢;have HZF:=Lib.hid hZF;clear hO hZF hby ld c0 c1 r2
  go_wp2_with (refine Yae rfl 25 _ _ rfl (B+2) ZF (frA 0 Ycf) rfl rfl 25 d2 HSV HYV HOV ?_;intro w5 hh5 hg5)
  refine bodyPost_ret (Yao rfl _ _ (B+2) 25 _ (0,0) _ rfl hh5 Tryz.underlying25 rfl HSV) rfl ?_;refine⟨v',g',by rw[HZF.out];rfl,?_,hu2.grown hg5 (by have:=hu2.size;omega) (fun k hk=>by injection hk with hk;have:=HB.out;omega)⟩;refine(HO.out.mono (by have:=HB.out;omega)).keep fun p hp=>hg5.block _ ((HO.out.pl p hp).lt (SOM.out HE.out p)) ?_;have:=HO.out.from_ p hp;intro e;injection e with e;omega
 |true=>
  obtain rfl:ah=true:=by
   cases ah with
   |true=>rfl
   |false=>exact absurd ⟨rfl,rfl⟩ hF
  go_enter Tryz.func8,Tryz.ntmps8
  go_wp2_with (rw[HWA.out,HB.out,HWB.out,HWC.out];with_reducible refine wpList_load_row rfl 29 _ rfl (B+1) rfl 29 zs.toArray (0,0) _ h1 Tryz.underlying29 rfl HSZ ?_)
  refine CO.mono ?_;rintro e x1 ⟨vq,rfl,ho,hb1⟩;rw[hql] at ho;obtain⟨q,cap,rfl,hi1⟩:=Yiz hql ho;have k2:=K2.out _ hb1;have k3:=K3.out _ hb1;have c0:=C0.out _ hb1;clear ho hF h1 hql
  go_wp2_with (with_reducible refine Yam (by kernel_rfl) 25 _ rfl B rfl 25 X (0,0) _ c0 Tryz.underlying25 rfl HSX ?_)
  refine(AH.out _).mono ?_;rintro e x2 ⟨rfl,hb2⟩;have hb12:=hb1.trans (hb2.mono (by have:=hb1.size;have:=HZC.out;omega));have hi:=hi1.below hb2;clear hb1 hb2 c0 k2 k3 hi1 AH;have c0:=C0.out _ hb12;have c1:=C1.out _ hb12;have ld:=LD.out HE.out _ hb12 q cap hi;have hu:=Lib.hid (fun(y:World) (hy:Below x2.heap.size x2 y)=>UP.out y (hb12.trans (hy.mono (by have:=hb12.size;have:=HZC.out;omega))))
  have r2:=R2.out _ hb12;have hz:=hb12.size;rw[HZC.out] at hz;clear hb12 hi CO
  go_wp2_with (first|(with_reducible refine wpList_load_row rfl 25 _ rfl B rfl 25 X (0,0) _ c0 Tryz.underlying25 rfl HSX ?_)|(with_reducible refine wpList_load_row rfl 29 _ rfl (B+1) rfl 29 zs.toArray (0,0) _ c1 Tryz.underlying29 rfl HSZ ?_))
  refine ld.mono ?_;rintro e y ⟨v',g',rfl,hO,hby⟩;have d2:=(hby.block (B+2) (by omega)).trans r2;have hu2:=hu.out _ hby
  have hz2:=hby.size;have HSV:=Ya1 Ybh K v';have HOV:=Ycx K v' hO.ones;have HYV:(frA 0 Ycf).size=(frA K v').size:=rfl;have HO:=Lib.hid hO;obtain⟨ZF,hZF⟩:∃ZF,frA K v'=ZF:=⟨_,rfl⟩;rw[hZF] at HSV HOV HYV ⊢;have HZF:=Lib.hid hZF;clear hO hZF hby ld c0 c1 r2
  go_wp2_with (refine Yae rfl 25 _ _ rfl (B+2) ZF (frA 0 Ycf) rfl rfl 25 d2 HSV HYV HOV ?_;intro w5 hh5 hg5)
  refine bodyPost_ret (Yao rfl _ _ (B+2) 25 _ (0,0) _ rfl hh5 Tryz.underlying25 rfl HSV) rfl ?_;refine⟨v',g',by rw[HZF.out];rfl,?_,hu2.grown hg5 (by have:=hu2.size;omega) (fun k hk=>by injection hk with hk;have:=HB.out;omega)⟩;refine(HO.out.mono (by have:=HB.out;omega)).keep fun p hp=>hg5.block _ ((HO.out.pl p hp).lt (SOM.out HE.out p)) ?_;have:=HO.out.from_ p hp;intro e;injection e with e;omega
def Ylv (k:Int)(n:Nat→Nat)(f:Nat→Nat→Int)(S:ShP):Bool:=if Yfn k n S=0 then Yfp S.hd.fmt (siz S.hd.fmt) (Yhx k n f S (Yaw S).length) k n f else false
set_option maxRecDepth 1000000 in
set_option maxHeartbeats 8000000 in
theorem Ypa (k:Int)(v:Nat→Value)(n:Nat→Nat)(f:Nat→Nat→Int)(S:ShP)(p b:Option Addr)(ca cb:Nat)(w:World)(h:Yfs w v n f)(hI:Yu4 w S p b):
  Calls Tryz.prog 11 #[.agg (frA k v),.agg (Yaz S.hd (.slice p S.hd.supp.length ca) (.slice b S.rows.length cb) S.zeros).toArray] w fun e w'=>e=.returned (.bool (Ylv k n f S))∧Below w.heap.size w w':=by
 have NX:=fun x hx=>Yem k v n f S p b ca cb x (h.below hx) (hI.below hx);obtain⟨zs,hZ⟩:∃zs,Yaz S.hd (.slice p S.hd.supp.length ca) (.slice b S.rows.length cb) S.zeros=zs:=⟨_,rfl⟩;have HSZ:(Tryz.prog.info? 29).map (·.size)=some zs.toArray.size:=by rw[show zs.toArray.size=8 by rw[←hZ];rfl];kernel_rfl
 rw[hZ] at NX ⊢;obtain⟨B,wA,wB,hB,hwA,hwB,hzA,hzB,hC0,hC1,hbC⟩:=Yej w (.cells (frA k v) 25 (0,0)) (.cells zs.toArray 29 (0,0));have hup:∀x,Below (B+2) wB x→Below w.heap.size w x:=fun x hx=>hB▸hbC.trans (hx.mono (by omega));have UP:=Lib.hid hup;have C0:=Lib.hid (fun(x:World) (hx:Below (B+2) wB x)=>((hx.block B (by omega)).trans hC0:x.heap[B]? =some (.cells (frA k v) 25 (0,0))))
 have HSX:=Ya1 Ybh k v;have HSN:=Ya1 Ybh 0 Ycf;have HON:=Ycx 0 Ycf (fun _ _=>rfl);have hFz:∀w,(zeroValue 25).run Tryz.prog w=.ok (.agg (frA 0 Ycf)) w:=Yg1;have NB:=NX wB (hup wB (Below.refl _ _));have SM:=Lib.hid (fun(v':Nat→Value) (F:Nat→Nat→Int) (x:World) (hx:Below (B+2) wB x) (hF:Yfs x v' (siz S.hd.fmt) F)=>Yjp S.hd.fmt k v' v (siz S.hd.fmt) n F f x hF (h.below (hup x hx)))
 have SB:=Lib.hid (show Ylv k n f S=if Yfn k n S=0 then Yfp S.hd.fmt (siz S.hd.fmt) (Yhx k n f S (Yaw S).length) k n f else false from rfl);have SOM:=Lib.hid (fun(hE:Yfn k n S=0) (p:Nat) (_:p<3)=>Yb4 (Ygf hE).1 p);unfold Yha at NB;rw[hzB] at NB;have h0:=hC0;have h1:=hC1;have HWA:=Lib.hid hwA;have HWB:=Lib.hid hwB;have HB:=Lib.hid hB;have HZB:=Lib.hid hzB;generalize Ylv k n f S=R at *
 obtain⟨X,hX⟩:∃X,frA k v=X:=⟨_,rfl⟩;rw[hX] at NB SM h0 HWA C0 HSX ⊢;obtain⟨YF,hYF⟩:∃YF,frA 0 Ycf=YF:=⟨_,rfl⟩;have HYF:YF.size=4:=by rw[←hYF];rfl
 rw[hYF] at NB HSN HON hFz;generalize S.hd.fmt=K at *;generalize Yhx k n f S (Yaw S).length=G at *;generalize Yfn k n S=E at *;clear hwA hwB hB hC0 hC1 hzA hzB hbC hup NX hZ h hI hX hYF;by_cases hE:E=0
 ·have CN:=NB.2 hE;have HE:=Lib.hid hE;rw[hE,if_pos rfl] at SB;clear NB hE
  go_enter Tryz.func11,Tryz.ntmps11
  go_wp2_with (first|(rw[HWA.out,HB.out,HWB.out];with_reducible refine wpList_load_row rfl 25 _ rfl B rfl 25 X (0,0) _ h0 Tryz.underlying25 rfl HSX ?_)|(with_reducible refine wpList_load_row rfl 29 _ rfl (B+1) rfl 29 zs.toArray (0,0) _ h1 Tryz.underlying29 rfl HSZ ?_))
  refine CN.mono ?_;rintro e x1 ⟨v',g',rfl,hO,hb1⟩;have HSV:=Ya1 Ybh K v';have HOV:=Ycx K v' hO.ones;have HYV:YF.size=(frA K v').size:=HYF;obtain⟨ZF,hZF⟩:∃ZF,frA K v'=ZF:=⟨_,rfl⟩;obtain⟨D,hD⟩:∃D,x1.heap.size=D:=⟨_,rfl⟩;obtain⟨x2,hx2⟩:∃x2,x1.alloc (.cells (frA K v') 25 (0,0))=x2:=⟨_,rfl⟩;have hb2:Below x1.heap.size x1 x2:=by rw[←hx2];exact(Below.refl _ x1).alloc (Nat.le_refl _) _
  have hh2:x2.heap[D]? =some (.cells (frA K v') 25 (0,0)):=by rw[←hx2,←hD];exact heap_alloc_new x1 _
  have hb12:Below (B+2) wB x2:=hb1.trans (hb2.mono (by have:=hb1.size;have:=HZB.out;omega));have sm:=SM.out v' G x2 hb12 ((hO.below (SOM.out HE.out) hb2).at);have c0:=C0.out x2 hb12;have hu:=Lib.hid (fun(y:World) (hy:Below x2.heap.size x2 y)=>UP.out y (hb12.trans (hy.mono (by have:=hb12.size;have:=HZB.out;omega))));rw[hZF] at HSV HOV HYV hh2 hx2 sm ⊢;have HX2:=Lib.hid hx2;have HD:=Lib.hid hD
  clear hO hZF hb2 hb12 hx2 hD hb1 CN h0 h1
  go_wp2_with (first|(with_reducible refine Yai rfl 25 _ _ rfl ZF YF 25 rfl rfl HSV HYV HOV ?_;rw[HX2.out,HD.out])|(with_reducible refine Yam (by kernel_rfl) 25 _ rfl D rfl 25 ZF (0,0) _ hh2 Tryz.underlying25 rfl HSV ?_)|(with_reducible refine Yam (by kernel_rfl) 25 _ rfl B rfl 25 X (0,0) _ c0 Tryz.underlying25 rfl HSX ?_))
  refine sm.mono ?_;rintro e x3 ⟨rfl,hb3⟩;have hend:=hu.out _ hb3
  go_wp2
  go_ret
  exact⟨by rw[SB.out];rfl,hend⟩
 ·have CN:=NB.1 hE;have t1:(E==0)=false:=by simpa using hE
  rw[if_neg hE] at SB;clear NB hE
  go_enter Tryz.func11,Tryz.ntmps11
  go_wp2_with (first|(rw[HWA.out,HB.out,HWB.out];with_reducible refine wpList_load_row rfl 25 _ rfl B rfl 25 X (0,0) _ h0 Tryz.underlying25 rfl HSX ?_)|(with_reducible refine wpList_load_row rfl 29 _ rfl (B+1) rfl 29 zs.toArray (0,0) _ h1 Tryz.underlying29 rfl HSZ ?_))
  refine CN.mono ?_;rintro e x1 ⟨rfl,hb1⟩;obtain⟨D,hD⟩:∃D,x1.heap.size=D:=⟨_,rfl⟩;obtain⟨x2,hx2⟩:∃x2,x1.alloc (.cells YF 25 (0,0))=x2:=⟨_,rfl⟩;have hb2:Below x1.heap.size x1 x2:=by rw[←hx2];exact(Below.refl _ x1).alloc (Nat.le_refl _) _
  have hb12:Below (B+2) wB x2:=hb1.trans (hb2.mono (by have:=hb1.size;have:=HZB.out;omega));have hend:=UP.out x2 hb12;have HX2:=Lib.hid hx2;have HD:=Lib.hid hD;clear hb2 hb12 hx2 hD hb1 CN h0 h1
  go_wp2_with (with_reducible refine Yai rfl 25 _ _ rfl YF YF 25 rfl rfl HSN rfl HON ?_;rw[HX2.out,HD.out])
  go_ret
  exact⟨by rw[SB.out];rfl,hend⟩
theorem Ys4 {V:Cel→List Value→Prop}{gf:Nat→Nat}{w:World}{q:Option Addr}{l:List Cel}{i:Nat}(h:Yby 18 (fun _=>V) w q l)(hi:i<l.length)(hq:∀b o,q=some ⟨b,o,none⟩→∀p,p<3→b≠gf p):∃b o vs,q=some ⟨b,o,none⟩∧V l[i] vs∧∀x,Yb3 gf w x→x.rangeAt b (o+i*18) vs:=by
 obtain⟨b,o,rfl,hb,hc⟩:=h.each (by omega);obtain⟨vs,hV,hv⟩:=hc i hi;exact⟨b,o,vs,rfl,hV,fun x hx j v hj=>(World.cell?_of_block (a:=⟨b,o+i*18+j,none⟩) (hx.block b hb (hq b o rfl))).trans (hv w (Below.refl _ _) j v hj)⟩
theorem Ywk {gf:Nat→Nat}{w:World}{q:Option Addr}{l:List Int}{i:Nat}(h:Ydf w q l)(hi:i<l.length)(hq:∀b o,q=some ⟨b,o,none⟩→∀p,p<3→b≠gf p):∃b o,q=some ⟨b,o,none⟩∧∀x,Yb3 gf w x→x.cell? ⟨b,o+i,none⟩=some (.int .i64 (l.getD i 0)):=by
 obtain⟨b,o,rfl,hb,hc⟩:=h.hold (by omega);exact⟨b,o,rfl,fun x hx=>(World.cell?_of_block (a:=⟨b,o+i,none⟩) (hx.block b hb (hq b o rfl))).trans (hc w (Below.refl _ _) i hi)⟩
set_option maxRecDepth 1000000 in
set_option maxHeartbeats 8000000 in
theorem Yqu (k:Int)(v:Nat→Value)(n:Nat→Nat)(f:Nat→Nat→Int)(S:ShP)(p b:Option Addr)(ca cb:Nat)(w:World)(h:Yfs w v n f)(hn:S.rows.length≤1048576)(hr:Ycu w b S.rows)(hm:(Yaw S).length≤1048576)(hc:∀c∈Yaw S,∀k,k<6→(c.ev k).length≤1048576)(hE:Yfn k n S=0):
  Calls Tryz.prog 12 #[.agg (frA k v),.agg (Yaz S.hd (.slice p S.hd.supp.length ca) (.slice b S.rows.length cb) S.zeros).toArray] w (Yft S.hd.fmt (Yhx k n f S (Yaw S).length) w):=by
 obtain⟨hk,hcm,hql⟩:=Ygf hE;have hmost:=Ydr S.hd.fmt;have CC0:=fun x (hx:Below w.heap.size w x)=>Yqr S p b ca cb w x (by unfold maxLen;omega) hr hx hm;have CQ0:=fun x (hx:Below w.heap.size w x)=>Yx1 S p b ca cb x hn (hr.below hx) hm (Yyj (Yh8 (Yhs hE).1).1);obtain⟨zs,hZ⟩:∃zs,Yaz S.hd (.slice p S.hd.supp.length ca) (.slice b S.rows.length cb) S.zeros=zs:=⟨_,rfl⟩
 have z2:zs[2]? =some (.int .i64 S.hd.fmt):=by rw[←hZ];rfl
 have HSZ:(Tryz.prog.info? 29).map (·.size)=some zs.toArray.size:=by rw[show zs.toArray.size=8 by rw[←hZ];rfl];kernel_rfl
 rw[hZ] at CC0 CQ0 ⊢;obtain⟨B,wA,wB,wC,hB,hwA,hwB,hwC,hzA,hzB,hzC,hC0,hC1,hC2,hbC⟩:=Yjt w (.cells (frA k v) 25 (0,0)) (.cells zs.toArray 29 (0,0)) (.cells (frA 0 Ycf) 25 (0,0));have hup:∀x,Below (B+3) wC x→Below w.heap.size w x:=fun x hx=>hB▸hbC.trans (hx.mono (by omega));have NW:=Yz4 S.hd.fmt 0 wC hk;rw[Yjl] at NW;unfold Yft at NW ⊢;rw[hzC] at NW
 have C1:=Lib.hid (fun(x:World) (hx:Below (B+3) wC x)=>((hx.block (B+1) (by omega)).trans hC1:x.heap[B+1]? =some (.cells zs.toArray 29 (0,0))));have C0:=Lib.hid (fun(x:World) (hx:Below (B+3) wC x)=>((hx.block B (by omega)).trans hC0:x.heap[B]? =some (.cells (frA k v) 25 (0,0))))
 have R2:=Lib.hid (fun(x:World) (hx:Below (B+3) wC x)=>((hx.block (B+2) (by omega)).trans hC2:x.heap[B+2]? =some (.cells (frA 0 Ycf) 25 (0,0))));have K2:wC.cell? ⟨B+1,2,none⟩=some (.int .i64 S.hd.fmt):=Yac hC1 z2;have K2t:=K2;rw[←hwC,←hwB,←hwA,←hB] at K2t;have UP:=Lib.hid hup;have CC:=Lib.hid (fun x (hx:Below (B+3) wC x)=>CC0 x (hup x hx))
 have CQ:=Lib.hid (fun x (hx:Below (B+3) wC x)=>CQ0 x (hup x hx));have CR:=Lib.hid (fun(m:Nat) (hm:m<(Yaw S).length) (p:Nat→Option Addr) (nn kk:Nat→Nat) (x:World) (hx:Below (B+3) wC x) (hi:Yea x (Yi9 S m) p nn)=>(by
  have h1:=Yt3 k v n f (m:Int) (Yi9 S m) p nn kk (Ysf S m) x (h.below (hup x hx)) hi (Yyi (f:=f) hE hm).2;rw[←(Yj7 (f:=f) hE hm).2] at h1;exact h1:Calls Tryz.prog 25 #[.agg (frA k v),.int .i64 (m:Int),.agg (Ycd (Yi9 S m) fun i=>.slice (p i) (nn i) (kk i)).toArray,.int .i64 (Ysf S m)] x fun e y=>e=.returned (.agg (arn 384 (Yo9 k n f S m)))∧Below x.heap.size x y))
 have CL:=Lib.hid (fun(m:Nat) (hm:m<(Yaw S).length) (vf:Nat→Value) (gf:Nat→Nat) (x:World) (hx:Ybu x (B+3) vf gf (siz S.hd.fmt) (Yhx k n f S m))=>Yzz S.hd.fmt (B+3) vf gf (Yhx k n f S m) m (Yo9 k n f S m) x hx (by rw[←hcm];exact hm));have GN:Hid (∀m:Nat,Yhx k n f S (m+1)=Ygi S.hd.fmt m (Yo9 k n f S m) (Yhx k n f S m) 384):=Lib.hid fun _=>rfl;have G0:Hid (Yhx k n f S 0=fun _ _=>0):=Lib.hid rfl
 have EVS:=Lib.hid (fun(m:Nat) (hm:m<(Yaw S).length)=>(⟨by unfold Yi9;rw[List.getD_eq_getElem?_getD,List.getElem?_eq_getElem hm,Option.getD_some],hc _ (List.getElem_mem hm)⟩:Yi9 S m=(Yaw S)[m]∧∀k,k<6→((Yaw S)[m].ev k).length≤1048576));have HSX:=Ya1 Ybh k v;have SOM:=Lib.hid (fun(p:Nat) (_:p<3)=>Yb4 hk p);have hFz:∀w,(zeroValue 25).run Tryz.prog w=.ok (.agg (frA 0 Ycf)) w:=Yg1;have QL:=Lib.hid hql
 have HYF:(frA 0 Ycf).size=4:=rfl;have hN:(Yaw S).length≤6336:=by rw[hcm];exact hmost
 obtain⟨N,hNN⟩:∃N,(Yaw S).length=N:=⟨_,rfl⟩;have NN:=Lib.hid hNN;have HWA:=Lib.hid hwA;have HWB:=Lib.hid hwB;have HWC:=Lib.hid hwC;have HB:=Lib.hid hB;have HZC:=Lib.hid hzC;generalize frA k v=X at *;generalize frA 0 Ycf=YF at *;obtain⟨K,hKK⟩:∃K,S.hd.fmt=K:=⟨_,rfl⟩;rw[hKK] at NW CL GN SOM K2t ⊢;rw[hNN] at hN ⊢
 clear K2 hwA hwB hwC hB hC0 hC1 hC2 hzA hzB hzC hbC hup CC0 CQ0 z2 hZ h hn hr hm hc hE hk hcm hql hmost hKK hNN
 go_enter Tryz.func12,Tryz.ntmps12
 go_wp2_with fail
 rw[HWA.out,HB.out,HWB.out,HWC.out];refine NW.mono ?_;rintro e x1 ⟨vf,gf,rfl,hO1,hb1⟩;have HSV:=Ya1 Ybh K vf;have HOV:=Ycx K vf hO1.ones;have HYV:YF.size=(frA K vf).size:=HYF;have CLF:=Lib.hid (fun(m:Nat) (hm:m<(Yaw S).length)=>CL.out m hm vf gf);obtain⟨D,hD⟩:∃D,x1.heap.size=D:=⟨_,rfl⟩;have glt:=Lib.hid (fun p (hp:p<3)=>hD▸(hO1.pl p hp).lt (SOM.out p hp):∀p,p<3→gf p<D);have gge:=Lib.hid hO1.from_
 have KFN:=Lib.hid (fun(w':World) (F:Nat→Nat→Int) (hF:Ybu w' (B+3) vf gf (siz K) F) (hb:Below w.heap.size w w')=>(⟨vf,gf,rfl,hF.mono (by have:=HB.out;omega),hb⟩:∃v g,Ending.returned (.agg (frA K vf))=.returned (.agg (frA K v))∧Ybu w' w.heap.size v g (siz K) F∧Below w.heap.size w w'));obtain⟨ZF,hZF⟩:∃ZF,frA K vf=ZF:=⟨_,rfl⟩;rw[hZF] at HSV HOV HYV CLF KFN ⊢
 obtain⟨x2,hx2⟩:∃x2,x1.alloc (.cells ZF 25 (0,0))=x2:=⟨_,rfl⟩;have hb2:Below x1.heap.size x1 x2:=by rw[←hx2];exact(Below.refl _ x1).alloc (Nat.le_refl _) _
 have hh2:x2.heap[D]? =some (.cells ZF 25 (0,0)):=by rw[←hx2,←hD];exact heap_alloc_new x1 _
 have hO2:=hO1.below SOM.out hb2;have hs2:x2.heap.size=D+1:=by rw[←hx2,←hD];simp
 have hz1:B+3≤D:=by rw[←hD];have:=hb1.size;have:=HZC.out;omega
 have hb12:Below (B+3) wC x2:=hb1.trans (hb2.mono (by omega));have c2:=C1.out x2 hb12;have cc:=CC.out x2 hb12;have HX2:=Lib.hid hx2;have HD:=Lib.hid hD;clear hZF hb2 hx2 hD hb1 hO1 K2t NW CL
 go_wp2_with (first|(with_reducible refine Yai rfl 25 _ _ rfl ZF YF 25 rfl rfl HSV HYV HOV ?_;rw[HX2.out,HD.out])|(with_reducible refine wpList_load_row rfl 29 _ rfl (B+1) rfl 29 zs.toArray (0,0) _ c2 Tryz.underlying29 rfl HSZ ?_))
 refine cc.mono ?_;rintro e x3 ⟨vl,rfl,hol,hb3⟩;have hfl:=hol.fresh;obtain⟨ql,cl,rfl,hml⟩:=hol.many (V':=fun _=>Yit w) (fun _ _ h=>h);have hb13:Below (B+3) wC x3:=hb12.trans (hb3.mono (by omega));have hO3:=hO2.below SOM.out hb3;have hh3:=(hb3.block D (by omega)).trans hh2;have c3:=C1.out x3 hb13;have cq:=CQ.out x3 hb13;have hs3:=hb3.size;clear hol hb3 hO2 hh2 c2 cc
 go_wp2_with (with_reducible refine wpList_load_row rfl 29 _ rfl (B+1) rfl 29 zs.toArray (0,0) _ c3 Tryz.underlying29 rfl HSZ ?_)
 refine cq.mono ?_;rintro e x4 ⟨vq,rfl,hoq,hb4⟩;have hfq:=Ylc hoq;rw[QL.out] at hoq;obtain⟨qq,cq4,rfl,hiq⟩:=Yiz QL.out hoq;have hb14:Below (B+3) wC x4:=hb13.trans (hb4.mono (by omega));have hO4:=hO3.below SOM.out hb4;have hh4:=(hb4.block D (by omega)).trans hh3;have hml4:Yby 18 (fun _=>Yit w) x4 ql (Yaw S):=Yby.below hml (fun _ _ h=>h) hb4;have hs4:=hb4.size
 have NQ:=Lib.hid (fun b o (e:qq=some ⟨b,o,none⟩) p (hp:p<3)=>(by have:=hfq b (by rw[e];rfl);have:=glt.out p hp;omega:b≠gf p));have NL:=Lib.hid (fun b o (e:ql=some ⟨b,o,none⟩) p (hp:p<3)=>(by have:=hfl b (by rw[e];rfl);have:=glt.out p hp;omega:b≠gf p));have ML:=Lib.hid hml4;have IQ:=Lib.hid hiq
 have LOW:=Lib.hid (fun(x:World) (hx:Yb3 gf x4 x)=>(hb14.trans (hx.to_below (by omega) gge.out):Below (B+3) wC x));have OUT:=Lib.hid (fun(x:World) (hx:Yb3 gf x4 x)=>((hx.block D (by omega) fun p hp=>by have:=glt.out p hp;omega).trans hh4:x.heap[D]? =some (.cells ZF 25 (0,0))));have HD4:D<x4.heap.size:=by omega
 have P0:=Lib.hid (by rw[G0.out];exact hO4:Ybu x4 (B+3) vf gf (siz K) (Yhx k n f S 0));have KP0:=Lib.hid (Yb3.refl gf x4);rw[NN.out];clear hoq hb4 hO3 hh3 c3 cq hml hiq hml4 hs2 hs3 hs4 hb12 hb13 hb14 hfl hfq hO4 hh4 HD4
 go_wp2
 go_loopw [8] (fun t wr=>∃m:Nat,m≤N∧t=.int .i64 (m:Int)∧Hid (Yb3 gf x4 wr)∧Hid (Ybu wr (B+3) vf gf (siz K) (Yhx k n f S m))) (fun t _=>N-(RowKit.intOf t).toNat)
 case atStart=>exact⟨0,Nat.zero_le _,rfl,KP0,P0⟩
 case round=>
  clear KP0 P0;obtain⟨m,hm,rfl,hK,hO⟩:=hrel;by_cases hlt:m<N
  ·have t1:decide ((m:Int)<(N:Int))=true:=by simp;omega
   have hmS:m<(Yaw S).length:=by rw[NN.out];exact hlt
   obtain⟨bl,ol,vs,rfl,hV,hvc⟩:=Ys4 ML.out hmS NL.out;obtain⟨bq,oq,rfl,hqc⟩:=Ywk IQ.out (show m<_ by rw[QL.out];exact hmS) NQ.out;obtain⟨hcE,hev⟩:=EVS.out m hmS;obtain⟨p3,cap3,hvs,hci⟩:=Yrp hV hev;rw[←hcE] at hvs hci;have hl18:=hV.shape.1;have HSC:(Tryz.prog.info? 48).map (·.size)=some vs.length:=by rw[hl18];kernel_rfl
   have cr:=CR.out m hmS p3 (fun i=>((Yi9 S m).ev i).length) cap3;rw[←hvs] at cr;have cl:=CLF.out m hmS;have gn:=Lib.hid (GN.out m);have KK:∀y,Below wr.heap.size wr y→Yb3 gf x4 y:=fun y hy=>hK.out.trans (Yb3.of_below hy)
   have CRR:=Lib.hid (fun y (hy:Below wr.heap.size wr y)=>(cr y (LOW.out y (KK y hy)) (hci.below (UP.out y (LOW.out y (KK y hy))))).mono fun e z he=>(⟨he.1,hy.trans (he.2.mono hy.size)⟩:_∧Below wr.heap.size wr z));have LDO:=Lib.hid (fun y (hy:Below wr.heap.size wr y)=>OUT.out y (KK y hy));have LDX:=Lib.hid (fun y (hy:Below wr.heap.size wr y)=>C0.out y (LOW.out y (KK y hy)))
   have LDC:=Lib.hid (fun y (hy:Below wr.heap.size wr y)=>hvc y (KK y hy));have LDQ:Hid (∀y,Below wr.heap.size wr y→y.cell? ⟨bq,oq+m,none⟩=some (.int .i64 (Ysf S m))):=Lib.hid fun y hy=>hqc y (KK y hy);have OWN:=Lib.hid (fun y (hy:Below wr.heap.size wr y)=>hO.out.below SOM.out hy);have KEP:=Lib.hid KK;generalize arn 384 (Yo9 k n f S m)=U at CRR cl;generalize Ysf S m=qm at *
   have mlN:N≤9223372036854775807:=by omega
   clear hvc hqc hcE hev hvs hci hV cr KK hO hK
   go_wp2
   refine Yaf (S:=fun y=>Below wr.heap.size wr y) 13 (by kernel_rfl) (by kernel_rfl) (Below.refl _ _).drew ?_;simp only[List.take_succ_cons,List.take_zero,List.drop_succ_cons,List.drop_zero];refine Ya0 25 _ D 25 ZF (0,0) _ (by kernel_rfl) rfl rfl (fun x hx=>LDO.out x hx) Tryz.underlying25 rfl HSV ?_;simp only[Yaa]
   refine Yab (by kernel_rfl) (fun x _=>by go_simp;try with_reducible rfl) ?_;simp only[Yaa];refine Ya0 25 _ B 25 X (0,0) _ (by kernel_rfl) rfl rfl (fun x hx=>LDX.out x hx) Tryz.underlying25 rfl HSX ?_;simp only[Yaa]
   iterate 3 (refine Yab (by kernel_rfl) (fun x _=>by go_simp;try with_reducible rfl) ?_;simp only[Yaa])
   refine Yab (v:=.pointer (some ⟨bl,ol+m*18,none⟩)) (by kernel_rfl) (fun x _=>by go_simp;try with_reducible rfl) ?_;simp only[Yaa];refine Yro 48 _ bl (ol+m*18) vs _ (by kernel_rfl) rfl rfl (fun x hx=>LDC.out x hx) Tryz.underlying48 rfl HSC ?_;simp only[Yaa]
   iterate 2 (refine Yab (by kernel_rfl) (fun x _=>by go_simp;try with_reducible rfl) ?_;simp only[Yaa])
   refine Yab (v:=.pointer (some ⟨bq,oq+m,none⟩)) (by kernel_rfl) (fun x _=>by go_simp;try with_reducible rfl) ?_;simp only[Yaa];refine Yag 3 _ ⟨bq,oq+m,none⟩ (.int .i64 qm) (by kernel_rfl) rfl rfl (fun x hx=>by have c0:=LDQ.out x hx;go_simp) ?_;simp only[Yaa];refine Yah (by kernel_rfl) CRR.out (fun _=>by kernel_rfl) ?_;simp only[Yaa];refine Yar fun y hy=>?_;have cly:=cl y (OWN.out y hy)
   have ky:=Lib.hid (KEP.out y hy);clear cl
   go_wp2_with fail
   refine cly.mono ?_;rintro e y2 ⟨rfl,hK2,hO2⟩;rw[←gn.out] at hO2;have H1:=Lib.hid hO2;have H2:=Lib.hid (ky.out.trans hK2);clear hO2 hK2 cly hy
   go_wp2
   go_roundw
   case rel=>exact⟨m+1,by omega,by go_num,H2,H1⟩
   case measure=>simp[RowKit.intOf];omega
  ·obtain rfl:m=N:=by omega
   have t1:decide ((m:Int)<(m:Int))=false:=by simp
   have lw:=LOW.out wr hK.out;have r2:=R2.out wr lw;have o2:=OUT.out wr hK.out;have hu:=Lib.hid (UP.out wr lw);have hz:B+3≤wr.heap.size:=by have:=lw.size;have:=HZC.out;omega
   clear lw hK
   go_wp2_with (first|(with_reducible refine wpList_load_row rfl 25 _ rfl D rfl 25 ZF (0,0) _ o2 Tryz.underlying25 rfl HSV ?_)|(with_reducible refine Yae rfl 25 _ _ rfl (B+2) ZF YF rfl rfl 25 r2 HSV HYV HOV ?_;intro w5 hh5 hg5))
   refine bodyPost_ret (results_cell_row rfl _ _ (B+2) 25 _ (0,0) _ rfl hh5 Tryz.underlying25 rfl HSV) rfl ?_;refine KFN.out _ _ (hO.out.keep fun p hp=>hg5.block _ ((hO.out.pl p hp).lt (SOM.out p hp)) ?_) (hu.out.grown hg5 (by have:=hu.out.size;omega) (fun k hk=>by injection hk with hk;have:=HB.out;omega));have:=gge.out p hp;intro e;injection e with e;omega
def exN:ShP:=⟨⟨0,0,6,false,5,[]⟩,[⟨false,0,0,[exI,exI]⟩,⟨false,0,0,[exI,exI]⟩],0⟩
def exM:ShP:=⟨⟨0,0,6,true,5,[]⟩,[⟨false,0,0,[exI,exI]⟩,⟨false,0,0,[exI,exI]⟩],0⟩
theorem Yrt:Yfn 0 (fun _=>0) exN=0∧Yfn 0 (fun _=>0) exM=11:=by decide +kernel
theorem Y16:∀b,b<6→∀i,i<64→Yfr exI 5 b i=Yqa 80 i:=by decide +kernel
theorem Y15:∀b,b<6→∀i,i<64→Yf2 exI 5 b i=10:=fun b hb i hi=>((Yk4 (k:=kI) (lo:=-256) (hi:=255) (Y16 b hb) i hi).trans (Ywo 80 i hi)).trans (by decide +kernel)
theorem Ywc:∀m,m<4→Yi9 exN m=exI∧Ysf exN m=5
 |0,_=>⟨rfl,by decide +kernel⟩
 |1,_=>⟨rfl,by decide +kernel⟩
 |2,_=>⟨rfl,by decide +kernel⟩
 |3,_=>⟨rfl,by decide +kernel⟩
theorem Y14 (m:Nat)(hm:m<4)(s:Nat)(hs:s<384):Yo9 0 (fun _=>0) (fun _ _=>0) exN m s=10:=by
 have h:=(Yj7 (f:=fun _ _=>0) Yrt.1 (m:=m) (show m<(Yaw exN).length from hm)).2;rw[h,(Ywc m hm).1,(Ywc m hm).2];have hp:Ygq 0 (fun _=>0) (fun _ _=>0) (m:Int) exI=(fun _=>0,0):=by
  unfold Ygq;rw[if_pos (by decide)]
 rw[hp];show Y0x 0 (ptF (Yf2 exI 5) s)=10;rw[Y3n (b:=s / 64) (i:=s%64) rfl rfl,Y15 _ (by omega) _ (by omega)]
 decide +kernel
theorem Yzl:(Yaw exN).length=Ybg 6:=by decide +kernel
theorem Y3f:Yhx 0 (fun _=>0) (fun _ _=>0) exN (Yaw exN).length 0 1023=10:=by
 rw[Yzl];have h4:Ybg 6=4:=by decide +kernel
 exact Y2t (k:=6) (P:=Yo9 0 (fun _=>0) (fun _ _=>0) exN) (f:=fun _ _=>10) (fun _ _=>⟨by decide,by decide⟩) (fun m hm s hs=>Y14 m (by omega) s hs) 0 (by omega) 1023 (by decide +kernel)
theorem Yml:siz 6 0=1024∧Yb7 6 (siz 6)=true:=by decide +kernel
theorem Y3g {w:World}{N:Nat}(h1:w.heap[N+3]? =some (.cells #[.bool false,.int .i64 0,.int .i64 0,.slice (some ⟨N+1,0,none⟩) 2 2,.bool false,.int .i64 0,.int .i64 0,.slice (some ⟨N+1,0,none⟩) 2 2] 42 (0,0)))
  (h2:w.heap[N+1]? =some (.cells (Ycd exI Yp7++Ycd exI Yp7).toArray 48 (0,0)))(hR:Y1c w):Yu4 w exN none (some ⟨N+3,0,none⟩)∧Yu4 w exM none (some ⟨N+3,0,none⟩):=by
 have hm:(Lit.int .i64 exI.mx).wf=true∧(Lit.int .i64 exI.my).wf=true:=by decide
 have hc:=Y04 hm hm (fun _ _=>rfl) (fun _ _=>rfl) h2;have hr:=Y06 h1 rfl rfl hc hc;have he:∀c∈[exI,exI]++([exI,exI]++[]),∀k,k<6→(c.ev k).length≤1048576:=fun c hc k _=>by
  have:c=exI:=by simpa using hc
  subst this;exact Nat.zero_le _
 obtain⟨hT,hS,hP,hD⟩:=hR;have ask:∀i,Yd9 w i:=fun i c p n k y hy hc=>Ygy i c p n k y hc (hT.below hy) (hS.below hy);exact⟨⟨Nat.zero_le _,by decide,Ydf.nil _ _,hr,by decide,he,ask _,hT,hS,hP,hD⟩,⟨Nat.zero_le _,by decide,Ydf.nil _ _,hr,by decide,he,ask _,hT,hS,hP,hD⟩⟩
set_option maxRecDepth 100000 in
set_option maxHeartbeats 4000000 in
theorem Y2e (w:World)(hR:Y1c w):Calls Tryz.prog 7 #[] w fun e w'=>e=.returned (.bool true)∧Below w.heap.size w w':=by
 obtain⟨N,hN⟩:∃N,w.heap.size=N:=⟨_,rfl⟩;obtain⟨Y,HYS,hzv⟩:=Yfv;obtain⟨Yr,HYRS,hzr⟩:=Yhq;obtain⟨Ys,HYSS,hzs⟩:=Yqw;obtain⟨YF,hYF⟩:∃YF,frA 0 Ycf=YF:=⟨_,rfl⟩;have hFz:∀w,(zeroValue 25).run Tryz.prog w=.ok (.agg YF) w:=by rw[←hYF];exact Yg1
 have HYF:YF.size=4:=by rw[←hYF];rfl
 have HSN:(Tryz.prog.info? 25).map (·.size)=some YF.size:=by rw[←hYF];exact Ya1 Ybh 0 Ycf
 have HON:YF.all (·.oneCell')=true:=by rw[←hYF];exact Ycx 0 Ycf (fun _ _=>rfl)
 obtain⟨A,hA⟩:∃A,(Ycd exI Yp7).toArray=A:=⟨_,rfl⟩;obtain⟨Rw,hRw⟩:∃Rw:Array Value,#[.bool false,.int .i64 0,.int .i64 0,.slice (some ⟨N+1,0,none⟩) 2 2]=Rw:=⟨_,rfl⟩;obtain⟨Z1,hZ1⟩:∃Z:Array Value,#[.int .i64 0,.int .i64 0,.int .i64 6,.bool false,.int .i64 5,.slice none 0 0,.slice (some ⟨N+3,0,none⟩) 2 2,.int .i64 0]=Z:=⟨_,rfl⟩
 obtain⟨Z2,hZ2⟩:∃Z:Array Value,#[.int .i64 0,.int .i64 0,.int .i64 6,.bool true,.int .i64 5,.slice none 0 0,.slice (some ⟨N+3,0,none⟩) 2 2,.int .i64 0]=Z:=⟨_,rfl⟩;obtain⟨w0,hw0,hs0,hh0,hb0⟩:=Yfw w (.cells A 48 (0,0));obtain⟨w1,hw1,hs1,hh1,hb1⟩:=Yfw w0 (.cells (Ycd exI Yp7++Ycd exI Yp7).toArray 48 (0,0));obtain⟨w2,hw2,hs2,hh2,hb2⟩:=Yfw w1 (.cells Rw 42 (0,0))
 obtain⟨w3,hw3,hs3,hh3,hb3⟩:=Yfw w2 (.cells #[.bool false,.int .i64 0,.int .i64 0,.slice (some ⟨N+1,0,none⟩) 2 2,.bool false,.int .i64 0,.int .i64 0,.slice (some ⟨N+1,0,none⟩) 2 2] 42 (0,0));obtain⟨w4,hw4,hs4,hh4,hb4⟩:=Yfw w3 (.cells Z1 29 (0,0));rw[hN] at hs0 hh0 hb0;rw[hs0] at hs1 hh1 hb1;rw[hs1] at hs2 hh2 hb2;rw[hs2] at hs3 hh3 hb3;rw[hs3] at hs4 hh4 hb4;have hs1:w1.heap.size=N+2:=hs1
 have hs2:w2.heap.size=N+3:=hs2;have hs3:w3.heap.size=N+4:=hs3;have hs4:w4.heap.size=N+5:=hs4;have hA1:=(hb1.block N (by omega)).trans hh0;have b23:Below (N+2) w2 w3:=hb3.mono (by omega);have b13:Below (N+2) w1 w3:=hb2.trans b23;have b03:Below (N+1) w0 w3:=hb1.trans (b13.mono (by omega));have bw3:Below N w w3:=hb0.trans (b03.mono (by omega))
 have hIN:Hid (∀x,Below (N+4) w3 x→Yu4 x exN none (some ⟨N+3,0,none⟩)∧Yu4 x exM none (some ⟨N+3,0,none⟩)):=Lib.hid fun x hx=>
  Y3g ((hx.block (N+3) (by omega)).trans hh3) ((hx.block (N+1) (by omega)).trans ((b13.block (N+1) (by omega)).trans hh1)) (hR.below (by rw[hN];exact bw3.trans (hx.mono (by omega))))
 have UP:Hid (∀x,Below (N+4) w3 x→Below w.heap.size w x):=Lib.hid fun x hx=>by rw[hN];exact bw3.trans (hx.mono (by omega))
 have CN:=Lib.hid (fun x (hx:Below (N+4) w3 x)=>(by
  rw[←hZ1,←hYF];have h:=(Yem 0 Ycf (fun _=>0) (fun _ _=>0) exN none (some ⟨N+3,0,none⟩) 0 2 x (Yfs.nil x) (hIN.out x hx).1).2 Yrt.1;exact h:Calls Tryz.prog 8 #[.agg YF,.agg Z1] x (Yha 6 (Yhx 0 (fun _=>0) (fun _ _=>0) exN (Yaw exN).length) x)))
 have CM:Hid (∀x,Below (N+4) w3 x→Calls Tryz.prog 8 #[.agg YF,.agg Z2] x fun e w'=>e=.returned (.tuple #[.agg YF,.int .i64 11])∧Below x.heap.size x w'):=Lib.hid fun x hx=>by
  rw[←hZ2,←hYF];have h:=(Yem 0 Ycf (fun _=>0) (fun _ _=>0) exM none (some ⟨N+3,0,none⟩) 0 2 x (Yfs.nil x) (hIN.out x hx).2).1 (by rw[Yrt.2];decide);rw[Yrt.2] at h;exact h
 have hat:=Y3f;generalize Yhx 0 (fun _=>0) (fun _ _=>0) exN (Yaw exN).length=G at CN hat;have HSA:(Tryz.prog.info? 48).map (·.size)=some A.size:=by rw[←hA];exact Yd0 _ _
 have HYA:Y.size=A.size:=by rw[HYS,←hA];rfl
 have HOA:A.all (·.oneCell')=true:=by rw[←hA];exact Yfz (Yp8 w exI (by decide) fun _ _=>rfl)
 have HSR:(Tryz.prog.info? 42).map (·.size)=some Rw.size:=by rw[←hRw];kernel_rfl
 have HYR:Yr.size=Rw.size:=by rw[HYRS,←hRw];rfl
 have HOR:Rw.all (·.oneCell')=true:=by rw[←hRw];simp[Value.oneCell']
 have HSZ1:(Tryz.prog.info? 29).map (·.size)=some Z1.size:=by rw[←hZ1];kernel_rfl
 have HYZ1:Ys.size=Z1.size:=by rw[HYSS,←hZ1];rfl
 have HOZ1:Z1.all (·.oneCell')=true:=by rw[←hZ1];simp[Value.oneCell']
 have HSZ2:(Tryz.prog.info? 29).map (·.size)=some Z2.size:=by rw[←hZ2];kernel_rfl
 have SET:Z1.setIfInBounds 3 (.bool true)=Z2:=by rw[←hZ1,←hZ2];rfl
 have hh33:(w2.alloc (.cells #[.bool false,.int .i64 0,.int .i64 0,.slice (some ⟨N+1,0,none⟩) 2 2,.bool false,.int .i64 0,.int .i64 0,.slice (some ⟨N+1,0,none⟩) 2 2] 42 (0,0))).heap.size=N+3+1:=by rw[hw3,hs3]
 have hb34:Below (N+4) w3 w4:=hb4;have q4:w4.heap[N+1+1+1+1]? =some (.cells Z1 29 (0,0)):=hh4;have r2:=hh2;have HA:=Lib.hid hA;have HRW:=Lib.hid hRw;have HN:=Lib.hid hN;have HZ1:=Lib.hid hZ1;have HW0:=Lib.hid hw0;have HW1:=Lib.hid hw1;have HW2:=Lib.hid hw2;have HW3:=Lib.hid hw3;have HW4:=Lib.hid hw4;have S33:=Lib.hid hh33;have S1:=Lib.hid hs1;have S3:=Lib.hid hs3;have S4:=Lib.hid hs4
 clear hA hN hZ1 hZ2 hRw hYF hw0 hw1 hw2 hw3 hw4 hh1 hh2 hh3 hh4 hb0 hb1 hb2 hb3 hb4 b23 b13 b03 bw3 hs2 hs3 hs4 hh33 hR hIN
 go_enter Tryz.func7,Tryz.ntmps7
 go_wp2_with (first
  |(with_reducible refine wpList_buildTo rfl 48 _ rfl (some 9) rfl (Ycd exI Yp7).toArray (by kernel_rfl) ?_;rw[HA.out])
  |(with_reducible refine Yai rfl 48 _ _ rfl A Y 48 rfl rfl HSA HYA HOA ?_;rw[HW0.out,HN.out])
  |(with_reducible refine wpList_load_row rfl 48 _ rfl N rfl 48 A (0,0) _ hh0 Tryz.underlying48 rfl HSA ?_)
  |(with_reducible refine Yke rfl _ _ rfl exI exI Yp7 Yp7 (N+1) hs0 12 rfl ?d1 ?d2 ?_;(case d1=>(rw[HA.out];kernel_rfl));(case d2=>(rw[HA.out];kernel_rfl));rw[HW1.out])
  |(with_reducible refine wpList_buildTo rfl 42 _ rfl (some 13) rfl #[.bool false,.int .i64 0,.int .i64 0,.slice (some ⟨N+1,0,none⟩) 2 2] (by kernel_rfl) ?_;rw[HRW.out])
  |(with_reducible refine Yf5 rfl 42 _ _ rfl Rw Yr 42 (N+2) S1.out rfl rfl HSR HYR HOR ?_;rw[HW2.out])
  |(with_reducible refine wpList_load_row rfl 42 _ rfl (N+2) rfl 42 Rw (0,0) _ r2 Tryz.underlying42 rfl HSR ?_;rw[←HRW.out])
  |(with_reducible refine wpList_buildTo rfl 29 _ rfl (some 17) rfl #[.int .i64 0,.int .i64 0,.int .i64 6,.bool false,.int .i64 5,.slice none 0 0,.slice (some ⟨N+3,0,none⟩) 2 2,.int .i64 0] (by kernel_rfl) ?_;rw[HZ1.out])
  |(with_reducible refine Yf5 rfl 29 _ _ rfl Z1 Ys 29 (N+3+1) S33.out rfl rfl HSZ1 HYZ1 HOZ1 ?_;rw[HW3.out,HW4.out])
  |(with_reducible refine wpList_load_row rfl 29 _ rfl (N+1+1+1+1) rfl 29 Z1 (0,0) _ q4 Tryz.underlying29 rfl HSZ1 ?_))
 refine(CN.out _ hb34).mono ?_;rintro e x1 ⟨v',g',rfl,hO,hb1⟩;have hlow1:Below (N+4) w3 x1:=hb34.trans (hb1.mono (by have:=S4.out;omega));have q1:=(hb1.block (N+1+1+1+1) (by have:=S4.out;omega)).trans q4;have HSV:=Ya1 Ybh 6 v';have HOV:=Ycx 6 v' hO.ones;have HYV:YF.size=(frA 6 v').size:=HYF;obtain⟨D,hD⟩:∃D,x1.heap.size=D:=⟨_,rfl⟩;obtain⟨x2,hx2⟩:∃x2,x1.alloc (.cells (frA 6 v') 25 (0,0))=x2:=⟨_,rfl⟩
 have hb2:Below x1.heap.size x1 x2:=by rw[←hx2];exact(Below.refl _ x1).alloc (Nat.le_refl _) _
 have hh2:x2.heap[D]? =some (frO 25 6 v'):=by rw[←hx2,←hD];exact heap_alloc_new x1 _
 have hs2:x2.heap.size=D+1:=by rw[←hx2,←hD];simp
 have hlow2:Below (N+4) w3 x2:=hlow1.trans (hb2.mono (by have:=hb1.size;have:=S4.out;omega));have q2:=(hb2.block (N+1+1+1+1) (Array.getElem?_eq_some_iff.1 q1).1).trans q1;have hO2:=hO.below (fun p _=>Yb4 (show Yb6 6=true by decide) p) hb2;have hND:N+5≤D:=by rw[←hD];have:=hb1.size;have:=S4.out;omega
 obtain⟨x3,hx3⟩:∃x3,x2.setCell ⟨N+1+1+1+1,3,none⟩ (.bool true)=x3:=⟨_,rfl⟩;have c3:x2.cell? ⟨N+1+1+1+1,3,none⟩=some (.bool false):=by rw[cell_of_row _ _ _ _ _ _ q2,←HZ1.out];rfl
 have f3:x2.frozen? ⟨N+1+1+1+1,3,none⟩=false:=frozen_of_row _ _ _ _ _ q2;have q3:x3.heap[N+1+1+1+1]? =some (.cells Z2 29 (0,0)):=by rw[←hx3,heap_setCell_same _ _ _ _ _ _ q2,SET]
 have hlow3:Below (N+4) w3 x3:=by rw[←hx3];exact hlow2.setCell (by simp) _
 have hg3:x2.grownBy x3 (some (N+1+1+1+1)):=by
  rw[←hx3];exact⟨rfl,rfl,rfl,by simp[World.setCell],fun k _ hk=>heap_setCell_other x2 _ k _ (fun e=>hk (by rw[e]))⟩
 have hh3:=(hg3.block D (by omega) (fun e=>by injection e with e;omega)).trans hh2;have hO3:=hO2.keep (w':=x3) fun p hp=>hg3.block _ ((hO2.pl p hp).lt (Yb4 (show Yb6 6=true by decide) p)) (fun e=>by injection e with e;have:=hO2.from_ p hp;have:=S4.out;omega);have hs3:x3.heap.size=D+1:=by rw[←hx3,←hs2];simp[World.setCell]
 have cm:=CM.out x3 hlow3;have hv:∀p,p<3→∃a c,v' p=.slice a (siz 6 p) c:=fun p hp=>by
  obtain⟨c,h,_⟩:=hO3.pl p hp;exact⟨_,c,h⟩
 have RT:=Lib.hid (fun(x:World)=>(by rw[←Yml.2];exact Yet 6 v' (siz 6) x hv:Calls Tryz.prog 14 #[.agg (frA 6 v')] x fun e y=>e=.returned (.bool true)∧Below x.heap.size x y));obtain⟨c0,hv0,-,hpl⟩:=hO3.pl 0 (by omega);rw[Yml.1] at hv0 hpl;have hp0:=(hpl 1023 (by omega)).1;rw[hat] at hp0
 have CEL:=Lib.hid (fun(y:World) (hy:Below x3.heap.size x3 y)=>(⟨(hy.block D (by omega)).trans hh3,(Yce (T:=25) ((hy.block D (by omega)).trans hh3) (p:=0) (by omega)).trans (by rw[hv0]),(World.cell?_of_block (a:=⟨g' 0,1023,none⟩) (hy.block (g' 0) ((hO3.pl 0 (by omega)).lt (Yb4 (show Yb6 6=true by decide) 0)))).trans hp0⟩:
  y.heap[D]? =some (frO 25 6 v')∧y.cell? ⟨D,1+0,none⟩=some (.slice (some ⟨g' 0,0,none⟩) 1024 c0)∧y.cell? ⟨g' 0,1023,none⟩=some (.int .u8 10)))
 have hc0:1024≤c0:=by
  obtain⟨c,h,hc,_⟩:=hO3.pl 0 (by omega);rw[hv0,Yml.1] at h;injection h with _ _ h;rw[Yml.1] at hc;omega
 have UPL:=Lib.hid (fun(y:World) (hy:Below x3.heap.size x3 y)=>UP.out y (hlow3.trans (hy.mono (by have:=hlow3.size;have:=S3.out;omega))));obtain⟨ZF,hZF⟩:∃ZF,frA 6 v'=ZF:=⟨_,rfl⟩;unfold frO at CEL;rw[hZF] at HSV HOV HYV hx2 RT CEL ⊢;generalize g' 0=gb at *;have HX2:=Lib.hid hx2;have HX3:=Lib.hid hx3;have HD:=Lib.hid hD
 clear hZF hx2 hx3 hD hb1 hb2 hO hO2 hO3 hh2 hh3 hg3 hlow1 hlow2 hlow3 q1 q2 q4 hv hv0 hpl hp0 hND hs2 hb34 CN CM hh0 r2 hA1 hs0 hs1 hat
 go_wp2_with (first
  |(with_reducible refine Yai rfl 25 _ _ rfl ZF YF 25 rfl rfl HSV HYV HOV ?_;rw[HX2.out,HD.out])
  |(rw[HX3.out];with_reducible refine wpList_load_row rfl 29 _ rfl (N+1+1+1+1) rfl 29 Z2 (0,0) _ q3 Tryz.underlying29 rfl HSZ2 ?_))
 refine cm.mono ?_;rintro e x4 ⟨rfl,hb4⟩;obtain⟨E,hE⟩:∃E,x4.heap.size=E:=⟨_,rfl⟩;obtain⟨x5,hx5⟩:∃x5,x4.alloc (.cells YF 25 (0,0))=x5:=⟨_,rfl⟩;have hb5:Below x3.heap.size x3 x5:=by rw[←hx5];exact hb4.alloc hb4.size _
 obtain⟨d5,-,-⟩:=CEL.out x5 hb5;have rt:=RT.out x5;have HX5:=Lib.hid hx5;have HE:=Lib.hid hE;have HB5:=Lib.hid hb5;clear hx5 hE hb5 hb4 cm q3 c3 f3
 go_wp2_with (first
  |(with_reducible refine Yai rfl 25 _ _ rfl YF YF 25 rfl rfl HSN rfl HON ?_;rw[HX5.out,HE.out])
  |(with_reducible refine Yam (by kernel_rfl) 25 _ rfl D rfl 25 ZF (0,0) _ d5 Tryz.underlying25 rfl HSV ?_))
 refine rt.mono ?_;rintro e x6 ⟨rfl,hb6⟩;have hb7:=HB5.out.trans (hb6.mono HB5.out.size);obtain⟨-,k6,p6⟩:=CEL.out x6 hb7;have hend:=UPL.out _ hb7;clear d5 rt hb6 hb7
 go_wp2
 go_ret
 exact⟨rfl,hend⟩
theorem Yln (n m:Nat)(f g:Nat→Int):Yfc n f m g=Yfc m g n f:=Bool.eq_iff_iff.2 (by
 rw[Yhr,Yhr];exact⟨fun⟨h,h2⟩=>⟨h.symm,fun i hi=>(h2 i (by omega)).symm⟩,fun⟨h,h2⟩=>⟨h.symm,fun i hi=>(h2 i (by omega)).symm⟩⟩)
theorem Yuf (k k':Int)(n n':Nat→Nat)(f f':Nat→Nat→Int):Yfp k n f k' n' f'=Yfp k' n' f' k n f:=Bool.eq_iff_iff.2 (by
 rw[Yfd,Yfd];exact⟨fun⟨h,h2⟩=>⟨h.symm,fun p hp=>(Yln _ _ _ _).trans (h2 p hp)⟩,fun⟨h,h2⟩=>⟨h.symm,fun p hp=>(Yln _ _ _ _).trans (h2 p hp)⟩⟩)
structure ScIn (k:Int) (v:Nat→Value) (n:Nat→Nat) (f:Nat→Nat→Int) (S:ShP) (X Z:Array Value) (B:Nat) (w wB:World):Prop where
 up:∀x,Below (B+2) wB x→Below w.heap.size w x
 down:∀x y,Below (B+2) wB x→Below x.heap.size x y→Below (B+2) wB y
 size:∀x,Below (B+2) wB x→B+2≤x.heap.size
 fr:∀x,Below (B+2) wB x→x.heap[B]? =some (.cells X 25 (0,0))
 frs:(Tryz.prog.info? 25).map (·.size)=some X.size
 sh:∀x,Below (B+2) wB x→x.heap[B+1]? =some (.cells Z 29 (0,0))
 shs:(Tryz.prog.info? 29).map (·.size)=some Z.size
 fin:∀x,Below (B+2) wB x→Yfs x v n f
 lightf:∀x,Below (B+2) wB x→Calls Tryz.prog 5 #[.agg X] x fun e y=>e=.returned (.bool (Yr2 n))∧Below x.heap.size x y
 lights:∀x,Below (B+2) wB x→Calls Tryz.prog 6 #[.agg Z] x fun e y=>(∃b,e=.returned (.bool b)∧(b=true→Ygm S))∧Below x.heap.size x y
 live:∀x,Below (B+2) wB x→Calls Tryz.prog 7 #[] x fun e y=>e=.returned (.bool true)∧Below x.heap.size x y
 bad:Ygm S→Yfn k n S≠0→∀x,Below (B+2) wB x→Calls Tryz.prog 8 #[.agg X,.agg Z] x fun e y=>e=.returned (.tuple #[.agg (frA 0 Ycf),.int .i64 (Yfn k n S)])∧Below x.heap.size x y
 good:Ygm S→Yfn k n S=0→∀x,Below (B+2) wB x→Calls Tryz.prog 8 #[.agg X,.agg Z] x (Yha S.hd.fmt (Yhx k n f S (Yaw S).length) x)
 still:Ygm S→∀x,Below (B+2) wB x→Calls Tryz.prog 11 #[.agg X,.agg Z] x fun e y=>e=.returned (.bool (Ylv k n f S))∧Below x.heap.size x y
 err:Ygm S→∀x,Below (B+2) wB x→Calls Tryz.prog 9 #[.agg X,.agg Z] x fun e y=>e=.returned (.int .i64 (Yfn k n S))∧Below x.heap.size x y
 page:Ygm S→Yfn k n S=0→∀x,Below (B+2) wB x→Calls Tryz.prog 12 #[.agg X,.agg Z] x (Yft S.hd.fmt (Yhx k n f S (Yaw S).length) x)
theorem Y3z {k:Int}{v:Nat→Value}{n:Nat→Nat}{f:Nat→Nat→Int}{S:ShP}{vs:List Value}{w:World}(h:Yfs w v n f)(hS:ShV w S vs)(hR:Y1c w):
  ∃(X Z:Array Value) (B:Nat) (wA wB:World),frA k v=X∧vs.toArray=Z∧w.heap.size=B∧w.alloc (.cells X 25 (0,0))=wA∧wA.alloc (.cells Z 29 (0,0))=wB∧ScIn k v n f S X Z B w wB:=by
 obtain⟨p,b,ca,cb,rfl,hl,hn,hs,hr⟩:=hS;obtain⟨zs,hZ⟩:∃zs,Yaz S.hd (.slice p S.hd.supp.length ca) (.slice b S.rows.length cb) S.zeros=zs:=⟨_,rfl⟩;have HSZ:(Tryz.prog.info? 29).map (·.size)=some zs.toArray.size:=by rw[show zs.toArray.size=8 by rw[←hZ];rfl];kernel_rfl
 obtain⟨B,wA,wB,hB,hwA,hwB,hzA,hzB,hC0,hC1,hbB⟩:=Yej w (.cells (frA k v) 25 (0,0)) (.cells zs.toArray 29 (0,0));have UP:∀x,Below (B+2) wB x→Below w.heap.size w x:=fun x hx=>hB▸hbB.trans (hx.mono (by omega));have IN:Ygm S→∀x,Below (B+2) wB x→Yu4 x S p b:=fun hP x hx=>by
  obtain⟨hT,hSt,hP',hD⟩:=hR.below (UP x hx);exact⟨hl,by have:=hP.rows;omega,hs.below (UP x hx),hr.below (UP x hx),by have:=hP.all;omega,fun c hc k hk=>by have:=hP.mem c hc k hk;omega,fun c p n k y hy hc=>Ygy S.hd.inter c p n k y hc (hT.below hy) (hSt.below hy),hT,hSt,hP',hD⟩
 rw[hZ];refine⟨frA k v,zs.toArray,B,wA,wB,rfl,rfl,hB,hwA,hwB,?_⟩;exact{
  up:=UP
  down:=fun x y hx hy=>hx.trans (hy.mono (by have:=hx.size;omega))
  size:=fun x hx=>by have:=hx.size;omega
  fr:=fun x hx=>(hx.block B (by omega)).trans hC0
  frs:=Ya1 Ybh k v
  sh:=fun x hx=>(hx.block (B+1) (by omega)).trans hC1
  shs:=HSZ
  fin:=fun x hx=>h.below (UP x hx)
  lightf:=fun x _=>Ytp k v n x h.slices
  lights:=fun x hx=>by
   rw[←hZ];exact Yww S p b ca cb x hl hn (hr.below (UP x hx))
  live:=fun x hx=>Y2e x (hR.below (UP x hx))
  bad:=fun hP hE x hx=>by
   rw[←hZ];exact(Yem k v n f S p b ca cb x (h.below (UP x hx)) (IN hP x hx)).1 hE
  good:=fun hP hE x hx=>by
   rw[←hZ];exact(Yem k v n f S p b ca cb x (h.below (UP x hx)) (IN hP x hx)).2 hE
  still:=fun hP x hx=>by
   rw[←hZ];exact Ypa k v n f S p b ca cb x (h.below (UP x hx)) (IN hP x hx)
  err:=fun hP x hx=>by
   rw[←hZ];have hI:=IN hP x hx;exact Yug k v n S p b ca cb x h.slices hI.supp (by have:=hI.rows;unfold maxLen;omega) hI.ints hI.rin hI.many hI.evs
  page:=fun hP hE x hx=>by
   rw[←hZ];have hI:=IN hP x hx;exact Yqu k v n f S p b ca cb x (h.below (UP x hx)) hI.rows hI.rin hI.many hI.evs hE}
set_option maxRecDepth 100000 in
set_option maxHeartbeats 8000000 in
theorem Yis (k:Int)(v:Nat→Value)(n:Nat→Nat)(f:Nat→Nat→Int)(S:ShP)(vs:List Value)(w:World)(_:(Lit.int .i64 k).wf=true)(h:Yfs w v n f)(_:∀p,p<3→n p≤maxLen)(hS:ShV w S vs)(hR:Y1c w):
  Calls Tryz.prog 3 #[.agg (frA k v),.agg vs.toArray] w fun e w'=>e=.returned (.bool true)∧Below w.heap.size w w':=by
 obtain⟨X,Z,B,wA,wB,hX,hZ,hB,hwA,hwB,I⟩:=Y3z (k:=k) h hS hR;have UP:=Lib.hid I.up;have DN:=Lib.hid I.down;have SZ:=Lib.hid I.size;have FR:=Lib.hid I.fr;have FRS:=I.frs;have SH:=Lib.hid I.sh;have SHS:=I.shs;have LI:=Lib.hid I.lightf;have LS:=Lib.hid I.lights;have LIV:=Lib.hid I.live;have BAD:=Lib.hid I.bad;have GOOD:=Lib.hid I.good;have STL:=Lib.hid I.still;have ERR:=Lib.hid I.err
 have PAGE:=Lib.hid I.page;have SM:=Lib.hid (fun(K:Int) (F:Nat→Nat→Int) (v':Nat→Value) (x:World) (hx:Below (B+2) wB x) (hF:Yfs x v' (siz K) F)=>(by rw[←hX];exact Yjq k K v v' n (siz K) f F x (I.fin x hx) hF:Calls Tryz.prog 13 #[.agg X,.agg (frA K v')] x fun e y=>e=.returned (.bool (Yfp k n f K (siz K) F))∧Below x.heap.size x y))
 have SS:=Lib.hid (fun(K:Int) (F:Nat→Nat→Int) (v' v'':Nat→Value) (x:World) (hF:Yfs x v' (siz K) F) (hF':Yfs x v'' (siz K) F)=>(by rw[←Ylp K (siz K) F];exact Yjq K K v' v'' (siz K) (siz K) F F x hF hF':Calls Tryz.prog 13 #[.agg (frA K v'),.agg (frA K v'')] x fun e y=>e=.returned (.bool true)∧Below x.heap.size x y));obtain⟨YF,hYF⟩:∃YF,frA 0 Ycf=YF:=⟨_,rfl⟩
 have S0:=Lib.hid (fun(x:World)=>(by rw[←hYF,←Ylp 0 (fun _=>0) (fun _ _=>0)];exact Yjp 0 0 Ycf Ycf (fun _=>0) (fun _=>0) (fun _ _=>0) (fun _ _=>0) x (Yfs.nil x) (Yfs.nil x):Calls Tryz.prog 10 #[.agg YF,.agg YF] x fun e y=>e=.returned (.bool true)∧Below x.heap.size x y));have hFz:∀w,(zeroValue 25).run Tryz.prog w=.ok (.agg YF) w:=by rw[←hYF];exact Yg1
 have HYF:YF.size=4:=by rw[←hYF];rfl
 have HSN:(Tryz.prog.info? 25).map (·.size)=some YF.size:=by rw[←hYF];exact Ya1 Ybh 0 Ycf
 have HON:YF.all (·.oneCell')=true:=by rw[←hYF];exact Ycx 0 Ycf (fun _ _=>rfl)
 rw[hYF] at BAD;have SB:=Lib.hid (show Ylv k n f S=if Yfn k n S=0 then Yfp S.hd.fmt (siz S.hd.fmt) (Yhx k n f S (Yaw S).length) k n f else false from rfl);have SC:=Lib.hid (Yuf k S.hd.fmt n (siz S.hd.fmt) f (Yhx k n f S (Yaw S).length));have SOM:=Lib.hid (fun(hE:Yfn k n S=0) (p:Nat) (_:p<3)=>Yb4 (Ygf hE).1 p);generalize Yhx k n f S (Yaw S).length=G at *;obtain⟨K,hK⟩:∃K,S.hd.fmt=K:=⟨_,rfl⟩
 rw[hK] at SB SC GOOD PAGE SOM;generalize Ylv k n f S=st at *;obtain⟨E,hE⟩:∃E,Yfn k n S=E:=⟨_,rfl⟩;rw[hE] at SB BAD GOOD ERR PAGE SOM;have W0:=Lib.hid (Below.refl (B+2) wB);rw[hX,hZ];have HWA:=Lib.hid hwA;have HWB:=Lib.hid hwB;have HB:=Lib.hid hB;clear I hX hZ hB hwA hwB h hS hR hYF hK hE
 go_enter Tryz.func3,Tryz.ntmps3
 have fr0:=FR.out wB W0.out
 go_wp2_with (rw[HWA.out,HB.out,HWB.out];with_reducible refine wpList_load_row rfl 25 _ rfl B rfl 25 X (0,0) _ fr0 Tryz.underlying25 rfl FRS ?_)
 refine(LI.out _ W0.out).mono ?_;rintro e x1 ⟨rfl,hx1⟩;have b1:=DN.out _ _ W0.out hx1;clear hx1 fr0 W0;cases hlf:Yr2 n with
 |false=>
  clear hlf
  go_wp2_with fail
  refine(LIV.out _ b1).mono ?_;rintro e xl ⟨rfl,hxl⟩;have hend:=UP.out _ (DN.out _ _ b1 hxl)
  go_wp2
  go_ret
  exact⟨rfl,hend⟩
 |true=>
  clear hlf;have s1:=SH.out _ b1
  go_wp2_with (with_reducible refine Yam (by kernel_rfl) 29 _ rfl (B+1) rfl 29 Z (0,0) _ s1 Tryz.underlying29 rfl SHS ?_)
  refine(LS.out _ b1).mono ?_;rintro e x2 ⟨⟨lb,rfl,hL⟩,hx2⟩;have b2:=DN.out _ _ b1 hx2;clear hx2 s1 b1;cases lb with
  |false=>
   clear hL
   go_wp2_with fail
   refine(LIV.out _ b2).mono ?_;rintro e xl ⟨rfl,hxl⟩;have hend:=UP.out _ (DN.out _ _ b2 hxl)
   go_wp2
   go_ret
   exact⟨rfl,hend⟩
  |true=>
   have HP:=Lib.hid (hL rfl);have f2:=FR.out _ b2;have s2:=SH.out _ b2;clear hL;by_cases h0:E=0
   case neg=>
    have t1:(E != 0)=true:=by simpa [bne] using h0
    have hst:st=false:=SB.out.trans (if_neg h0);subst hst;have NX:=BAD.out HP.out h0 _ b2;clear SB SC GOOD PAGE SM SS BAD h0
    go_wp2_with (first|(with_reducible refine wpList_load_row rfl 25 _ rfl B rfl 25 X (0,0) _ f2 Tryz.underlying25 rfl FRS ?_)|(with_reducible refine wpList_load_row rfl 29 _ rfl (B+1) rfl 29 Z (0,0) _ s2 Tryz.underlying29 rfl SHS ?_))
    refine NX.mono ?_;rintro e x3 ⟨rfl,hx3⟩;obtain⟨D,hD⟩:∃D,x3.heap.size=D:=⟨_,rfl⟩;obtain⟨x4,hx4⟩:∃x4,x3.alloc (.cells YF 25 (0,0))=x4:=⟨_,rfl⟩;have hb4:Below x2.heap.size x2 x4:=by rw[←hx4];exact hx3.alloc hx3.size _
    have b4:=DN.out _ _ b2 hb4;have f4:=FR.out _ b4;have s4:=SH.out _ b4;have g4:x4.heap[D]? =some (.cells YF 25 (0,0)):=by rw[←hx4,←hD];exact heap_alloc_new x3 _
    have HX4:=Lib.hid hx4;have HD:=Lib.hid hD;have GK:=Lib.hid (fun(y:World) (hy:Below x4.heap.size x4 y)=>(hy.block D (Array.getElem?_eq_some_iff.1 g4).1).trans g4);have ER:=ERR.out HP.out _ b4;clear hx4 hD hb4 hx3 b2 f2 s2 NX
    go_wp2_with (first|(with_reducible refine Yai rfl 25 _ _ rfl YF YF 25 rfl rfl HSN rfl HON ?_;rw[HX4.out,HD.out])|(with_reducible refine wpList_load_row rfl 25 _ rfl B rfl 25 X (0,0) _ f4 Tryz.underlying25 rfl FRS ?_)|(with_reducible refine wpList_load_row rfl 29 _ rfl (B+1) rfl 29 Z (0,0) _ s4 Tryz.underlying29 rfl SHS ?_))
    refine ER.mono ?_;rintro e x5 ⟨rfl,hx5⟩;have b5:=DN.out _ _ b4 hx5;have g5:=GK.out _ hx5;clear f4 s4 g4 ER hx5
    go_wp2_with (with_reducible refine wpList_load_row rfl 25 _ rfl D rfl 25 YF (0,0) _ g5 Tryz.underlying25 rfl HSN ?_)
    refine(S0.out _).mono ?_;rintro e x6 ⟨rfl,hx6⟩;have b6:=DN.out _ _ b5 hx6;have f6:=FR.out _ b6;have s6:=SH.out _ b6;have te:(E==E)=true:=by simp
    clear hx6 b5 g5
    go_wp2_with (first|(with_reducible refine Yam (by kernel_rfl) 25 _ rfl B rfl 25 X (0,0) _ f6 Tryz.underlying25 rfl FRS ?_)|(with_reducible refine Yam (by kernel_rfl) 29 _ rfl (B+1) rfl 29 Z (0,0) _ s6 Tryz.underlying29 rfl SHS ?_))
    refine(STL.out HP.out _ b6).mono ?_;rintro e x7 ⟨rfl,hx7⟩;have b7:=DN.out _ _ b6 hx7;clear hx7 b6 f6 s6
    go_wp2_with fail
    refine(LIV.out _ b7).mono ?_;rintro e xl ⟨rfl,hxl⟩;have hend:=UP.out _ (DN.out _ _ b7 hxl)
    go_wp2
    go_ret
    exact⟨rfl,hend⟩
   case pos=>
    have hst:st=Yfp k n f K (siz K) G:=(SB.out.trans (if_pos h0)).trans SC.out.symm;have NX:=GOOD.out HP.out h0 _ b2;have H0:=Lib.hid h0;clear SB SC GOOD BAD S0;subst h0
    go_wp2_with (first|(with_reducible refine wpList_load_row rfl 25 _ rfl B rfl 25 X (0,0) _ f2 Tryz.underlying25 rfl FRS ?_)|(with_reducible refine wpList_load_row rfl 29 _ rfl (B+1) rfl 29 Z (0,0) _ s2 Tryz.underlying29 rfl SHS ?_))
    refine NX.mono ?_;rintro e x3 ⟨v3,g3,rfl,hO,hx3⟩;have HSV:=Ya1 Ybh K v3;have HOV:=Ycx K v3 hO.ones;have HYV:YF.size=(frA K v3).size:=HYF;obtain⟨D,hD⟩:∃D,x3.heap.size=D:=⟨_,rfl⟩;obtain⟨x4,hx4⟩:∃x4,x3.alloc (.cells (frA K v3) 25 (0,0))=x4:=⟨_,rfl⟩;have hb34:Below x3.heap.size x3 x4:=by rw[←hx4];exact(Below.refl _ x3).alloc (Nat.le_refl _) _
    have hb4:Below x2.heap.size x2 x4:=hx3.trans (hb34.mono hx3.size);have b4:=DN.out _ _ b2 hb4;have f4:=FR.out _ b4;have s4:=SH.out _ b4;have g4:x4.heap[D]? =some (.cells (frA K v3) 25 (0,0)):=by rw[←hx4,←hD];exact heap_alloc_new x3 _
    have O4:=hO.below (SOM.out H0.out) hb34;have GK:=Lib.hid (fun(y:World) (hy:Below x4.heap.size x4 y)=>(⟨(hy.block D (Array.getElem?_eq_some_iff.1 g4).1).trans g4,(O4.below (SOM.out H0.out) hy).at⟩:y.heap[D]? =some (.cells (frA K v3) 25 (0,0))∧Yfs y v3 (siz K) G));have ER:=ERR.out HP.out _ b4;have SS3:=Lib.hid (SS.out K G v3);obtain⟨ZF,hZF⟩:∃ZF,frA K v3=ZF:=⟨_,rfl⟩
    rw[hZF] at HSV HOV HYV hx4 GK SS3 ⊢;have HX4:=Lib.hid hx4;have HD:=Lib.hid hD;clear hx4 hD hb4 hb34 hx3 b2 f2 s2 NX hO g4 O4 SS hZF
    go_wp2_with (first|(with_reducible refine Yai rfl 25 _ _ rfl ZF YF 25 rfl rfl HSV HYV HOV ?_;rw[HX4.out,HD.out])|(with_reducible refine wpList_load_row rfl 25 _ rfl B rfl 25 X (0,0) _ f4 Tryz.underlying25 rfl FRS ?_)|(with_reducible refine wpList_load_row rfl 29 _ rfl (B+1) rfl 29 Z (0,0) _ s4 Tryz.underlying29 rfl SHS ?_))
    refine ER.mono ?_;rintro e x5 ⟨rfl,hx5⟩;have b5:=DN.out _ _ b4 hx5;have f5:=FR.out _ b5;have s5:=SH.out _ b5;have PG:=PAGE.out HP.out H0.out _ b5;clear f4 s4 ER
    go_wp2_with (first|(with_reducible refine wpList_load_row rfl 25 _ rfl B rfl 25 X (0,0) _ f5 Tryz.underlying25 rfl FRS ?_)|(with_reducible refine wpList_load_row rfl 29 _ rfl (B+1) rfl 29 Z (0,0) _ s5 Tryz.underlying29 rfl SHS ?_))
    refine PG.mono ?_;rintro e x6 ⟨v6,g6,rfl,hO,hx6⟩;have HSV6:=Ya1 Ybh K v6;have HOV6:=Ycx K v6 hO.ones;have HYV6:YF.size=(frA K v6).size:=HYF;obtain⟨D6,hD6⟩:∃D6,x6.heap.size=D6:=⟨_,rfl⟩;obtain⟨x7,hx7⟩:∃x7,x6.alloc (.cells (frA K v6) 25 (0,0))=x7:=⟨_,rfl⟩;have hb67:Below x6.heap.size x6 x7:=by rw[←hx7];exact(Below.refl _ x6).alloc (Nat.le_refl _) _
    have hb57:Below x5.heap.size x5 x7:=hx6.trans (hb67.mono hx6.size);have b7:=DN.out _ _ b5 hb57;have hb47:Below x4.heap.size x4 x7:=hx5.trans (hb57.mono hx5.size);have g7:x7.heap[D6]? =some (.cells (frA K v6) 25 (0,0)):=by rw[←hx7,←hD6];exact heap_alloc_new x6 _
    have O7:=hO.below (SOM.out H0.out) hb67;have BK:=Lib.hid (fun(y:World) (hy:Below x7.heap.size x7 y)=>DN.out _ _ b7 hy);have G5:=Lib.hid (fun(y:World) (hy:Below x7.heap.size x7 y)=>GK.out y (hb47.trans (hy.mono hb47.size)))
    have G7:=Lib.hid (fun(y:World) (hy:Below x7.heap.size x7 y)=>(⟨(hy.block D6 (Array.getElem?_eq_some_iff.1 g7).1).trans g7,(O7.below (SOM.out H0.out) hy).at⟩:y.heap[D6]? =some (.cells (frA K v6) 25 (0,0))∧Yfs y v6 (siz K) G))
    have C1:=Lib.hid (fun(y:World) (hy:Below x7.heap.size x7 y)=>(SS3.out v6 y (G5.out y hy).2 (G7.out y hy).2).mono fun e z he=>(⟨he.1,hy.trans (he.2.mono hy.size)⟩:_∧Below x7.heap.size x7 z));have C2:=Lib.hid (fun(y:World) (hy:Below x7.heap.size x7 y)=>(STL.out HP.out y (BK.out y hy)).mono fun e z he=>(⟨he.1,hy.trans (he.2.mono hy.size)⟩:_∧Below x7.heap.size x7 z))
    have C3:=Lib.hid (fun(y:World) (hy:Below x7.heap.size x7 y)=>(SM.out K G v6 y (BK.out y hy) (G7.out y hy).2).mono fun e z he=>(⟨he.1,hy.trans (he.2.mono hy.size)⟩:_∧Below x7.heap.size x7 z));have C4:=Lib.hid (fun(y:World) (hy:Below x7.heap.size x7 y)=>(LIV.out y (BK.out y hy)).mono fun e z he=>(⟨he.1,hy.trans (he.2.mono hy.size)⟩:_∧Below x7.heap.size x7 z));rw[←hst] at C3
    obtain⟨ZP,hZP⟩:∃ZP,frA K v6=ZP:=⟨_,rfl⟩;rw[hZP] at HSV6 HOV6 HYV6 hx7 G7 C1 C3 ⊢;have HX7:=Lib.hid hx7;have HD6:=Lib.hid hD6;have LD0:=Lib.hid (fun(y:World) (hy:Below x7.heap.size x7 y)=>(G5.out y hy).1);have LD1:=Lib.hid (fun(y:World) (hy:Below x7.heap.size x7 y)=>(G7.out y hy).1);have LD2:=Lib.hid (fun(y:World) (hy:Below x7.heap.size x7 y)=>FR.out y (BK.out y hy))
    have LD3:=Lib.hid (fun(y:World) (hy:Below x7.heap.size x7 y)=>SH.out y (BK.out y hy));have ts:(st==st)=true:=by simp
    clear hx7 hD6 hb67 hb57 hb47 g7 O7 hO hx6 hx5 b5 f5 s5 PG G5 G7 hst hZP b4
    go_wp2_with (with_reducible refine Yai rfl 25 _ _ rfl ZP YF 25 rfl rfl HSV6 HYV6 HOV6 ?_;rw[HX7.out,HD6.out])
    refine Yaf (S:=fun y=>Below x7.heap.size x7 y) 20 (by kernel_rfl) (by kernel_rfl) (Below.refl _ _).drew ?_;simp only[List.take_succ_cons,List.take_zero,List.drop_succ_cons,List.drop_zero];refine Ya0 25 _ D 25 ZF (0,0) _ (by kernel_rfl) rfl rfl (fun x hx=>LD0.out x hx) Tryz.underlying25 rfl HSV ?_;simp only[Yaa]
    refine Ya0 25 _ D6 25 ZP (0,0) _ (by kernel_rfl) rfl rfl (fun x hx=>LD1.out x hx) Tryz.underlying25 rfl HSV6 ?_;simp only[Yaa];refine Yah (by kernel_rfl) C1.out (fun _=>by kernel_rfl) ?_;simp only[Yaa]
    iterate 5 (refine Yab (by kernel_rfl) (fun x _=>by go_simp;try with_reducible rfl) ?_;simp only[Yaa])
    refine Ya0 25 _ B 25 X (0,0) _ (by kernel_rfl) rfl rfl (fun x hx=>LD2.out x hx) Tryz.underlying25 rfl FRS ?_;simp only[Yaa];refine Ya0 29 _ (B+1) 29 Z (0,0) _ (by kernel_rfl) rfl rfl (fun x hx=>LD3.out x hx) Tryz.underlying29 rfl SHS ?_;simp only[Yaa];refine Yah (by kernel_rfl) C2.out (fun _=>by kernel_rfl) ?_;simp only[Yaa]
    refine Ya0 25 _ B 25 X (0,0) _ (by kernel_rfl) rfl rfl (fun x hx=>LD2.out x hx) Tryz.underlying25 rfl FRS ?_;simp only[Yaa];refine Ya0 25 _ D6 25 ZP (0,0) _ (by kernel_rfl) rfl rfl (fun x hx=>LD1.out x hx) Tryz.underlying25 rfl HSV6 ?_;simp only[Yaa];refine Yah (by kernel_rfl) C3.out (fun _=>by kernel_rfl) ?_;simp only[Yaa]
    refine Yab (v:=.bool true) (by kernel_rfl) (fun x _=>by go_simp;try with_reducible rfl) ?_;simp only[Yaa]
    iterate 2 (refine Yab (by kernel_rfl) (fun x _=>by go_simp;try with_reducible rfl) ?_;simp only[Yaa])
    refine Yah (by kernel_rfl) C4.out (fun _=>by kernel_rfl) ?_;simp only[Yaa]
    iterate 2 (refine Yab (by kernel_rfl) (fun x _=>by go_simp;try with_reducible rfl) ?_;simp only[Yaa])
    refine Yar fun x hx=>?_;have hend:=UP.out _ (BK.out _ hx)
    go_wp2
    go_ret
    exact⟨rfl,hend⟩
end Go.Proofs.YtnamlooifcpoaaaGreatDoor