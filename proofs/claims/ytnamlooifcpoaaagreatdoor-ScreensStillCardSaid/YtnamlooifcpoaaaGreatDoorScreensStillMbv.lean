/- No condition. -/
import Derived.Test.YtnamlooifcpoaaaGreatDoorScreensStillMa
import Derived.Test.YtnamlooifcpoaaaGreatDoorScreensStillMg
import Derived.Test.YtnamlooifcpoaaaGreatDoorScreensStillMz
import Derived.Test.YtnamlooifcpoaaaGreatDoorScreensStillMba
import Derived.Test.YtnamlooifcpoaaaGreatDoorScreensStillMbu
import Derived.Deep.MidRow
namespace Go.Proofs.YtnamlooifcpoaaaGreatDoor
open Go.RowKit Go.Lib
def Yeo (G:(Nat→Int)×Int)(w:World)(e:Ending)(w':World):Prop:=e=.returned (.tuple #[.agg (arn 384 G.1),.int .i64 G.2])∧Below w.heap.size w w'
theorem Yws (k:Int)(v:Nat→Value)(n:Nat→Nat)(f:Nat→Nat→Int)(m a b:Int)(w:World)(h:Ygh w v n f):
  Calls Tryz.prog 79 #[.agg (frA k v),.int .i64 m,.agg (Yh4 a b)] w (Yeo (Ynu k n f m a b) w):=by
 cases hn:Ybk k n&&Yi6 k m a b with
 |false=>
  refine(Ytu k v n m a b w h.slices hn).mono fun e y he=>⟨?_,he.2⟩;rw[he.1];unfold Ynu;rw[hn]
  rfl
 |true=>
  have hr:Ybk k n=true:=(Bool.and_eq_true _ _▸hn).1;have hy:Yi6 k m a b=true:=(Bool.and_eq_true _ _▸hn).2;obtain⟨hc1,-,-⟩:=Yg1.1 hy;obtain⟨q,rfl⟩:∃q:Nat,m=(q:Int):=⟨m.toNat,by omega⟩;have hq:q<Ybc k:=by simpa using hc1.2
  refine(Yts k v n f q a b w h hr hq hy).mono fun e y he=>⟨?_,he.2⟩;rw[he.1];unfold Ynu;rw[if_pos hn,Int.toNat_natCast]
theorem Yu6 {w:World}{B:Nat}{T:TypeId}{c:Cel}{sl:Nat→Value}(h:w.heap[B]? =some (.cells (Ybp c sl).toArray T (0,0))):w.rangeAt B 4 [.int .i64 c.mx,.int .i64 c.my]:=fun j v hj=>by
 have hj2:j<2:=(List.getElem?_eq_some_iff.1 hj).1;have e4:w.cell? ⟨B,4,none⟩=some (.int .i64 c.mx):=Yac (o:=4) h rfl;have e5:w.cell? ⟨B,5,none⟩=some (.int .i64 c.my):=Yac (o:=5) h rfl
 match j,hj2 with
 |0,_=>injection hj with hj;rw[←hj];exact e4
 |1,_=>injection hj with hj;rw[←hj];exact e5
set_option maxRecDepth 1000000 in
set_option maxHeartbeats 8000000 in
theorem Yqp (k:Int)(v:Nat→Value)(n:Nat→Nat)(f:Nat→Nat→Int)(m:Int)(c:Cel)(sl:Nat→Value)(w:World)(h:Ygh w v n f):
  Calls Tryz.prog 53 #[.agg (frA k v),.int .i64 m,.agg (Ybp c sl).toArray] w (Yeo (Yl7 k n f m c) w):=by
 obtain⟨B,wA,wB,wC,hB,hwA,hwB,hwC,hzA,hzB,hzC,hC0,hC1,hC2,hbC⟩:=Yic w (.cells (frA k v) 25 (0,0)) (.cells (Ybp c sl).toArray 48 (0,0)) (.cells (arn 384 fun _=>0) 62 (0,0));have CV:=Yws k v n f m c.mx c.my wC (h.below (by rw[hB];exact hbC));have ck:wC.cell? ⟨B+1,2,none⟩=some (.int .i64 c.kind):=Yac (o:=2) hC1 rfl;have rg:=Yu6 hC1;have hz0:=Yek;have hbz:=Ykm;have HSX:=Ya0 Ybf k v
 have HSY:=Yb6 fun _=>0;have HOY:=Ybz 384 fun _=>0;have HYZ:(arn 384 fun _=>0).size=384:=Yar _ _;have HG:=Lib.hid (show Yl7 k n f m c=if Ya3 c.kind then (fun _=>0,0) else Ynu k n f m c.mx c.my from rfl);obtain⟨G,hG⟩:∃G,Ynu k n f m c.mx c.my=G:=⟨_,rfl⟩;obtain⟨E,hE⟩:∃E,Yl7 k n f m c=E:=⟨_,rfl⟩;rw[hG,hE] at HG;rw[hG] at CV;rw[hE];unfold Yeo at CV ⊢;obtain⟨X,hX⟩:∃X,frA k v=X:=⟨_,rfl⟩
 obtain⟨A,hA⟩:∃A,(Ybp c sl).toArray=A:=⟨_,rfl⟩;obtain⟨Y,hY⟩:∃Y,(arn 384 fun _=>0)=Y:=⟨_,rfl⟩;have HS2:(Tryz.prog.info? 43).map (·.size)=some [Value.int .i64 c.mx,.int .i64 c.my].length:=by kernel_rfl
 obtain⟨Z,hZ⟩:∃Z,[Value.int .i64 c.mx,.int .i64 c.my]=Z:=⟨_,rfl⟩;rw[show Yh4 c.mx c.my=Z.toArray by rw[←hZ];rfl] at CV;rw[hZ] at rg HS2;rw[hX] at CV hC0 hwA HSX ⊢;rw[hA] at hC1 hwB ⊢;rw[hY] at hC2 hwC hz0 hbz HSY HOY HYZ;have ck0:=ck;rw[←hwC,←hwB,←hwA,←hB] at ck0;have HY:=Lib.hid hY;have HWA:=Lib.hid hwA;have HWB:=Lib.hid hwB;have HWC:=Lib.hid hwC;have HB:=Lib.hid hB
 have HI:=Lib.hid (show Ya3 c.kind=(c.kind==3 || c.kind==4) from rfl);generalize Ya3 c.kind=ik at HG HI;clear ck;generalize c.kind=kk at ck0 HI;clear hG hE hX hA hY hZ hwA hwB hwC hB h;by_cases h3:kk=3∨kk=4
 ·have F1:=Lib.hid (show E=(fun _=>0,0) by rw[HG.out,HI.out,if_pos (by rcases h3 with rfl|rfl <;> rfl)]);clear HG HI rg;rcases h3 with rfl|rfl
  all_goals
   go_enter Tryz.func53,Tryz.ntmps53
   go_wp2_with (first|(rw[HWA.out,HB.out,HWB.out,HWC.out];with_reducible refine Yad rfl 62 _ _ rfl (B+2) Y Y rfl rfl 62 hC2 HSY rfl HOY ?_;intro w5 hh5 hg5)|(with_reducible refine Yad rfl 62 _ _ rfl (B+2) Y Y rfl rfl 62 hC2 HSY rfl HOY ?_;intro w5 hh5 hg5))
   refine bodyPost_ret (Yak rfl _ _ (B+2) 62 _ (0,0) _ rfl hh5 Tryz.underlying62 rfl HSY) rfl ?_;exact⟨by rw[F1.out,HY.out];rfl,by rw[HB.out];exact hbC.grown hg5 (by omega) (fun k hk=>by injection hk with hk;omega)⟩
 ·have n3:(kk==3)=false:=by simp;omega
  have n4:(kk==4)=false:=by simp;omega
  have F1:=Lib.hid (show E=G by rw[HG.out,HI.out,n3,n4];rfl);have HGS:=Yb6 G.1;have HGO:=Ybz 384 G.1;have HGY:Y.size=(arn 384 G.1).size:=by rw[HYZ,Yar]
  obtain⟨V,hV⟩:∃V,arn 384 G.1=V:=⟨_,rfl⟩;rw[hV] at CV HGS HGO HGY;have HV:=Lib.hid hV;clear HG HI h3 hV
  go_enter Tryz.func53,Tryz.ntmps53
  go_wp2_with (first|(rw[HWA.out,HB.out,HWB.out,HWC.out];with_reducible refine wpList_load_row rfl 25 _ rfl B rfl 25 X (0,0) _ hC0 Tryz.underlying25 rfl HSX ?_)|(with_reducible refine wpList_load_row rfl 25 _ rfl B rfl 25 X (0,0) _ hC0 Tryz.underlying25 rfl HSX ?_)|(with_reducible refine wpList_load_mid rfl 43 _ rfl (B+1) 4 rfl Z _ rg Tryz.underlying43 rfl HS2 ?_))
  refine CV.mono ?_;rintro e x1 ⟨rfl,hb1⟩;have d2:=(hb1.block (B+2) (by omega)).trans hC2;have hbw:=hbC.trans (hb1.mono (by omega))
  go_wp2_with (with_reducible refine Yad rfl 62 _ _ rfl (B+2) V Y rfl rfl 62 d2 HGS HGY HGO ?_;intro w5 hh5 hg5)
  refine bodyPost_ret (Yak rfl _ _ (B+2) 62 _ (0,0) _ rfl hh5 Tryz.underlying62 rfl HGS) rfl ?_;exact⟨by rw[F1.out,HV.out];rfl,by rw[HB.out];exact hbw.grown hg5 (by have:=hb1.size;omega) (fun k hk=>by injection hk with hk;omega)⟩
structure Yob (B:Nat) (w x:World) (b:Nat) (V:Array Value) (y:World):Prop where
 cell:y.heap[b]? =some (.cells V 62 (0,0))
 low:Below B w y
 far:B≤b
theorem Yke {B:Nat}{w x:World}(h:Below B w x)(hB:B≤w.heap.size)(V:Array Value):∃(b:Nat) (y:World),x.heap.size=b∧x.alloc (.cells V 62 (0,0))=y∧y.heap.size=b+1∧Yob B w x b V y:=
 ⟨_,_,rfl,rfl,by simp,heap_alloc_new x _,h.alloc (Nat.le_trans hB h.size) _,Nat.le_trans hB h.size⟩
theorem Yob.below {B:Nat}{w x:World}{b:Nat}{V:Array Value}{y z:World}(h:Yob B w x b V y)(hb:Below y.heap.size y z)(hs:b<y.heap.size):Yob B w x b V z:=
 ⟨(hb.block b hs).trans h.cell,h.low.trans (hb.mono (by have:=h.far;omega)),h.far⟩
set_option maxRecDepth 1000000 in
set_option maxHeartbeats 8000000 in
theorem Yqi (k:Int)(v:Nat→Value)(n:Nat→Nat)(f:Nat→Nat→Int)(m:Int)(c:Cel)(p:Nat→Option Addr)(nn kk:Nat→Nat)(q:Int)(w:World)(h:Ygh w v n f)(hc:Yeb w c p nn)(hT:Yfd w)(hS:Ybh w)(hP:Ybt w)(hD:Yck w):
  Calls Tryz.prog 30 #[.agg (frA k v),.int .i64 m,.agg (Ybp c fun i=>.slice (p i) (nn i) (kk i)).toArray,.int .i64 q] w (Yeo (Yt9 k n f m c q) w):=by
 obtain⟨B,wA,wB,wC,hB,hwA,hwB,hwC,hzA,hzB,hzC,hC0,hC1,hC2,hbC⟩:=Yic w (.cells (frA k v) 25 (0,0)) (.cells (Ybp c fun i=>.slice (p i) (nn i) (kk i)).toArray 48 (0,0)) (.cells (arn 384 fun _=>0) 62 (0,0));have UP:∀x,Below (B+3) wC x→Below w.heap.size w x:=fun x hx=>hB▸hbC.trans (hx.mono (by omega))
 have CR:=Ytj c p nn kk q wC (hc.below (hB▸hbC)) (hT.below (hB▸hbC)) (hS.below (hB▸hbC)) (hP.below (hB▸hbC)) (hD.below (hB▸hbC));unfold Yjz at CR;have CP:=fun(x:World) (hx:Below (B+3) wC x)=>Yqp k v n f m c (fun i=>.slice (p i) (nn i) (kk i)) x (h.below (UP x hx));have CS:=fun(a b:Nat→Int) (x:World)=>Yuj a b x
 have C0:=Lib.hid (fun(x:World) (hx:Below (B+3) wC x)=>((hx.block B (by omega)).trans hC0:x.heap[B]? =some (.cells (frA k v) 25 (0,0))));have C1:=Lib.hid (fun(x:World) (hx:Below (B+3) wC x)=>((hx.block (B+1) (by omega)).trans hC1:x.heap[B+1]? =some (.cells (Ybp c fun i=>.slice (p i) (nn i) (kk i)).toArray 48 (0,0))))
 have C2:=Lib.hid (fun(x:World) (hx:Below (B+3) wC x)=>((hx.block (B+2) (by omega)).trans hC2:x.heap[B+2]? =some (.cells (arn 384 fun _=>0) 62 (0,0))));have hz0:=Yek;have hbz:=Ykm;have HSX:=Ya0 Ybf k v;have HSA:=Yfr c (fun i=>.slice (p i) (nn i) (kk i));have HS:=Lib.hid (fun(g:Nat→Int)=>Yb6 g);have HO:=Lib.hid (fun(g:Nat→Int)=>Ybz 384 g)
 have HZ:=Lib.hid (fun(g:Nat→Int)=>(by rw[Yar,Yar]:(arn 384 fun _=>0).size=(arn 384 g).size));have HSY:=Yb6 fun _=>0;have HOY:=Ybz 384 fun _=>0;have HG:=Lib.hid (show Yt9 k n f m c q=if Ybb true c then (if (Yl7 k n f m c).2=0 then (Yfc (Yl7 k n f m c).1 (ptF (Yik c q)),0) else (fun _=>0,(Yl7 k n f m c).2)) else (fun _=>0,12) from rfl)
 have HR:=Lib.hid (show Yw0 (Yik c q) c=if Ybb true c then (ptF (Yik c q),0) else (fun _=>0,12) from rfl);generalize Yt9 k n f m c q=E at *;generalize Yw0 (Yik c q) c=R at *;generalize ptF (Yik c q)=S at *;generalize Yl7 k n f m c=D at *;generalize Ybb true c=ok at *;unfold Yeo at CP ⊢;have c0:=C0.out wC (Below.refl _ _);have c1:=C1.out wC (Below.refl _ _);obtain⟨X,hX⟩:∃X,frA k v=X:=⟨_,rfl⟩
 obtain⟨A,hA⟩:∃A,(Ybp c fun i=>.slice (p i) (nn i) (kk i)).toArray=A:=⟨_,rfl⟩;obtain⟨Y,hY⟩:∃Y,(arn 384 fun _=>0)=Y:=⟨_,rfl⟩;have HY:=Lib.hid hY;rw[hX] at hwA HSX c0 C0 CP ⊢;rw[hA] at hwB HSA c1 C1 CP CR ⊢;rw[hY] at hwC hz0 hbz HSY HOY HZ C2;have HWA:=Lib.hid hwA;have HWB:=Lib.hid hwB;have HWC:=Lib.hid hwC;have HB:=Lib.hid hB;have HBW:=Lib.hid hbC
 replace CP:=Lib.hid CP
 replace CS:=Lib.hid CS
 have HZC:=Lib.hid hzC;clear hX hA hY hwA hwB hwC hB hbC hC0 hC1 hC2 h hc hT hS hP hD UP hzA hzB hzC;cases ok with
 |false=>
  have F1:=Lib.hid (show E=(fun _=>0,12) from HG.out.trans rfl);rw[show R=(fun _=>0,12) from HR.out.trans rfl] at CR;have CR':Calls Tryz.prog 52 #[.agg A,.int .i64 q] wC fun e y=>e=.returned (.tuple #[.agg Y,.int .i64 12])∧Below wC.heap.size wC y:=by rw[←HY.out];exact CR
  clear CR HG HR
  go_enter Tryz.func30,Tryz.ntmps30
  go_wp2_with (rw[HWA.out,HB.out,HWB.out,HWC.out];with_reducible refine wpList_load_row rfl 48 _ rfl (B+1) rfl 48 A (0,0) _ c1 Tryz.underlying48 rfl HSA ?_)
  refine CR'.mono ?_;rintro e x1 ⟨rfl,hb1⟩;rw[HZC.out] at hb1;obtain⟨b1,y1,hx1,hy1,hs1,M1⟩:=Yke hb1 (by have:=HZC.out;omega) Y;have d2:=C2.out y1 M1.low;have hbw:=HBW.out.trans (M1.low.mono (by omega));have HX1:=Lib.hid hx1;have HY1:=Lib.hid hy1;have l1:=M1.far;clear hx1 hy1 hb1 c0 c1 M1
  go_wp2_with (first|(with_reducible refine Yaf rfl 62 _ _ rfl Y Y 62 rfl rfl HSY rfl HOY ?_;rw[HY1.out,HX1.out])|(with_reducible refine Yad rfl 62 _ _ rfl (B+2) Y Y rfl rfl 62 d2 HSY rfl HOY ?_;intro w5 hh5 hg5))
  refine bodyPost_ret (Yak rfl _ _ (B+2) 62 _ (0,0) _ rfl hh5 Tryz.underlying62 rfl HSY) rfl ?_;exact⟨by rw[F1.out,HY.out];rfl,by rw[HB.out];exact hbw.grown hg5 (by omega) (fun k hk=>by injection hk with hk;omega)⟩
 |true=>
  rw[show R=(S,0) from HR.out.trans rfl] at CR;have HG2:=Lib.hid (show E=if D.2=0 then (Yfc D.1 S,0) else (fun _=>0,D.2) from HG.out.trans rfl);have HSS:=HS.out S;have HOS:=HO.out S;have HZS:=HZ.out S;have HSD:=HS.out D.1;have HOD:=HO.out D.1;have HZD:=HZ.out D.1;have CS1:=Lib.hid (fun x=>CS.out D.1 S x);have HSE:=HS.out (Yfc D.1 S);have HOE:=HO.out (Yfc D.1 S);have HZE:=HZ.out (Yfc D.1 S)
  obtain⟨D1,D2⟩:=D;dsimp only at CR CP CS1 HG2 HSD HOD HZD HSE HOE HZE;obtain⟨U,hU⟩:∃U,arn 384 S=U:=⟨_,rfl⟩;obtain⟨V,hV⟩:∃V,arn 384 D1=V:=⟨_,rfl⟩;obtain⟨T,hT⟩:∃T,arn 384 (Yfc D1 S)=T:=⟨_,rfl⟩;rw[hU] at CR HSS HOS HZS CS1;rw[hV] at CP HSD HOD HZD CS1;rw[hT] at CS1 HSE HOE HZE;have HT:=Lib.hid hT;clear hU hV hT HG HR HS HO HZ CS
  go_enter Tryz.func30,Tryz.ntmps30
  go_wp2_with (rw[HWA.out,HB.out,HWB.out,HWC.out];with_reducible refine wpList_load_row rfl 48 _ rfl (B+1) rfl 48 A (0,0) _ c1 Tryz.underlying48 rfl HSA ?_)
  refine CR.mono ?_;rintro e x1 ⟨rfl,hb1⟩;rw[HZC.out] at hb1;obtain⟨b1,y1,hx1,hy1,hs1,M1⟩:=Yke hb1 (by have:=HZC.out;omega) U;have e0:=C0.out y1 M1.low;have e1:=C1.out y1 M1.low;have cp:=CP.out y1 M1.low;have HX1:=Lib.hid hx1;have HY1:=Lib.hid hy1;clear hx1 hy1 hb1 c0 c1 CR
  go_wp2_with (first|(with_reducible refine Yaf rfl 62 _ _ rfl U Y 62 rfl rfl HSS HZS HOS ?_;rw[HY1.out,HX1.out])|(with_reducible refine wpList_load_row rfl 25 _ rfl B rfl 25 X (0,0) _ e0 Tryz.underlying25 rfl HSX ?_)|(with_reducible refine wpList_load_row rfl 48 _ rfl (B+1) rfl 48 A (0,0) _ e1 Tryz.underlying48 rfl HSA ?_))
  refine cp.mono ?_;rintro e x2 ⟨rfl,hb2⟩;have M2:=M1.below hb2 (by omega);have hs2:=hb2.size;obtain⟨b3,y3,hx3,hy3,hs3,M3⟩:=Yke M2.low (by have:=HZC.out;omega) V;have g1:y3.heap[b1]? =some (.cells U 62 (0,0)):=by rw[←hy3];exact Yaq M2.cell
  have g3:=M3.cell;have d2:=C2.out y3 M3.low;have hbw:=HBW.out.trans (M3.low.mono (by omega));have HX3:=Lib.hid hx3;have HY3:=Lib.hid hy3;have CS3:=CS1.out y3;have l3:=M3.far;clear hx3 hy3 hb2 e0 e1 cp M1 M2 CP CS1;by_cases h0:D2=0
  ·have F1:=Lib.hid (show E=(Yfc D1 S,0) by rw[HG2.out,if_pos h0]);subst h0
   go_wp2_with (first|(with_reducible refine Yaf rfl 62 _ _ rfl V Y 62 rfl rfl HSD HZD HOD ?_;rw[HY3.out,HX3.out])|(with_reducible refine wpList_load_row rfl 62 _ rfl b3 rfl 62 V (0,0) _ g3 Tryz.underlying62 rfl HSD ?_)|(with_reducible refine wpList_load_row rfl 62 _ rfl b1 rfl 62 U (0,0) _ g1 Tryz.underlying62 rfl HSS ?_))
   refine CS3.mono ?_;rintro e x4 ⟨rfl,hb4⟩;have d4:=(hb4.block (B+2) (by omega)).trans d2;have hb5:=hbw.trans (hb4.mono (by omega));have hs4:=hb4.size
   go_wp2_with (with_reducible refine Yad rfl 62 _ _ rfl (B+2) T Y rfl rfl 62 d4 HSE HZE HOE ?_;intro w5 hh5 hg5)
   refine bodyPost_ret (Yak rfl _ _ (B+2) 62 _ (0,0) _ rfl hh5 Tryz.underlying62 rfl HSE) rfl ?_;exact⟨by rw[F1.out,←HT.out];rfl,by rw[HB.out];exact hb5.grown hg5 (by omega) (fun k hk=>by injection hk with hk;omega)⟩
  ·have F1:=Lib.hid (show E=(fun _=>0,D2) by rw[HG2.out,if_neg h0]);have t1:(D2 != 0)=true:=by simpa [bne] using h0
   clear h0
   go_wp2_with (first|(with_reducible refine Yaf rfl 62 _ _ rfl V Y 62 rfl rfl HSD HZD HOD ?_;rw[HY3.out,HX3.out])|(with_reducible refine Yad rfl 62 _ _ rfl (B+2) Y Y rfl rfl 62 d2 HSY rfl HOY ?_;intro w5 hh5 hg5))
   refine bodyPost_ret (Yak rfl _ _ (B+2) 62 _ (0,0) _ rfl hh5 Tryz.underlying62 rfl HSY) rfl ?_;exact⟨by rw[F1.out,HY.out];rfl,by rw[HB.out];exact hbw.grown hg5 (by omega) (fun k hk=>by injection hk with hk;omega)⟩
end Go.Proofs.YtnamlooifcpoaaaGreatDoor