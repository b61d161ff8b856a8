/- No condition. -/
import Derived.Test.YtdnjefldijjgdaaDoorRebuildSumsMa
import Derived.Test.YtdnjefldijjgdaaDoorRebuildSumsMg
import Derived.Test.YtdnjefldijjgdaaDoorRebuildSumsMx
import Derived.Test.YtdnjefldijjgdaaDoorRebuildSumsMy
import Derived.Test.YtdnjefldijjgdaaDoorRebuildSumsMbi
import Derived.Deep.MidRow
namespace Go.Proofs.YtdnjefldijjgdaaDoor
open Go.RowKit Go.Lib
def Ycy (G:(Nat→Int)×Int)(w:World)(e:Ending)(w':World):Prop:=e=.returned (.tuple #[.agg (arn 384 G.1),.int .i64 G.2])∧Below w.heap.size w w'
theorem Yog (k:Int)(v:Nat→Value)(n:Nat→Nat)(f:Nat→Nat→Int)(m a b:Int)(w:World)(h:Ykn w v n f):
  Calls Tryd.prog 22 #[.agg (frA k v),.int .i64 m,.agg (Ye6 a b)] w (Ycy (Yqc k n f m a b) w):=by
 cases hn:Ycf k n&&Ymz k m a b with
 |false=>
  refine(Yma k v n m a b w h.slices hn).mono fun e y he=>⟨?_,he.2⟩;rw[he.1];unfold Yqc;rw[hn]
  rfl
 |true=>
  have hr:Ycf k n=true:=(Bool.and_eq_true _ _▸hn).1;have hy:Ymz k m a b=true:=(Bool.and_eq_true _ _▸hn).2;obtain⟨hc1,-,-⟩:=Yi3.1 hy;obtain⟨q,rfl⟩:∃q:Nat,m=(q:Int):=⟨m.toNat,by omega⟩;have hq:q<Ycs k:=by simpa using hc1.2
  refine(Yl9 k v n f q a b w h hr hq hy).mono fun e y he=>⟨?_,he.2⟩;rw[he.1];unfold Yqc;rw[if_pos hn,Int.toNat_natCast]
theorem Ymu {w:World}{B:Nat}{T:TypeId}{c:Cel}{sl:Nat→Value}(h:w.heap[B]? =some (.cells (Ydg c sl).toArray T (0,0))):w.rangeAt B 4 [.int .i64 c.mx,.int .i64 c.my]:=fun j v hj=>by
 have hj2:j<2:=(List.getElem?_eq_some_iff.1 hj).1;have e4:w.cell? ⟨B,4,none⟩=some (.int .i64 c.mx):=Yad (o:=4) h rfl;have e5:w.cell? ⟨B,5,none⟩=some (.int .i64 c.my):=Yad (o:=5) h rfl
 match j,hj2 with
 |0,_=>injection hj with hj;rw[←hj];exact e4
 |1,_=>injection hj with hj;rw[←hj];exact e5
set_option maxRecDepth 1000000 in
set_option maxHeartbeats 8000000 in
theorem Yj8 (k:Int)(v:Nat→Value)(n:Nat→Nat)(f:Nat→Nat→Int)(m:Int)(c:Cel)(sl:Nat→Value)(w:World)(h:Ykn w v n f):
  Calls Tryd.prog 14 #[.agg (frA k v),.int .i64 m,.agg (Ydg c sl).toArray] w (Ycy (Yks k n f m c) w):=by
 obtain⟨B,wA,wB,wC,hB,hwA,hwB,hwC,hzA,hzB,hzC,hC0,hC1,hC2,hbC⟩:=Yif w (.cells (frA k v) 31 (0,0)) (.cells (Ydg c sl).toArray 37 (0,0)) (.cells (arn 384 fun _=>0) 24 (0,0));have CV:=Yog k v n f m c.mx c.my wC (h.below (by rw[hB];exact hbC));have ck:wC.cell? ⟨B+1,2,none⟩=some (.int .i64 c.kind):=Yad (o:=2) hC1 rfl;have rg:=Ymu hC1;have hz0:=Ycm;have hbz:=Ygj;have HSX:=Yed Ygd k v
 have HSY:=Ybc fun _=>0;have HOY:=Ya5 384 fun _=>0;have HYZ:(arn 384 fun _=>0).size=384:=Yah _ _;have HG:=Lib.hid (show Yks k n f m c=if Yax c.kind then (fun _=>0,0) else Yqc k n f m c.mx c.my from rfl);obtain⟨G,hG⟩:∃G,Yqc k n f m c.mx c.my=G:=⟨_,rfl⟩;obtain⟨E,hE⟩:∃E,Yks k n f m c=E:=⟨_,rfl⟩;rw[hG,hE] at HG;rw[hG] at CV;rw[hE];unfold Ycy at CV ⊢;obtain⟨X,hX⟩:∃X,frA k v=X:=⟨_,rfl⟩
 obtain⟨A,hA⟩:∃A,(Ydg c sl).toArray=A:=⟨_,rfl⟩;obtain⟨Y,hY⟩:∃Y,(arn 384 fun _=>0)=Y:=⟨_,rfl⟩;have HS2:(Tryd.prog.info? 32).map (·.size)=some [Value.int .i64 c.mx,.int .i64 c.my].length:=by kernel_rfl
 obtain⟨Z,hZ⟩:∃Z,[Value.int .i64 c.mx,.int .i64 c.my]=Z:=⟨_,rfl⟩;rw[show Ye6 c.mx c.my=Z.toArray by rw[←hZ];rfl] at CV;rw[hZ] at rg HS2;rw[hX] at CV hC0 hwA HSX ⊢;rw[hA] at hC1 hwB ⊢;rw[hY] at hC2 hwC hz0 hbz HSY HOY HYZ;have ck0:=ck;rw[←hwC,←hwB,←hwA,←hB] at ck0;have HY:=Lib.hid hY;have HWA:=Lib.hid hwA;have HWB:=Lib.hid hwB;have HWC:=Lib.hid hwC;have HB:=Lib.hid hB
 have HI:=Lib.hid (show Yax c.kind=(c.kind==3 || c.kind==4) from rfl);generalize Yax c.kind=ik at HG HI;clear ck;generalize c.kind=kk at ck0 HI;clear hG hE hX hA hY hZ hwA hwB hwC hB h;by_cases h3:kk=3∨kk=4
 ·have F1:=Lib.hid (show E=(fun _=>0,0) by rw[HG.out,HI.out,if_pos (by rcases h3 with rfl|rfl <;> rfl)]);clear HG HI rg;rcases h3 with rfl|rfl
  all_goals
   go_enter Tryd.func14,Tryd.ntmps14
   go_wp2_with (first|(rw[HWA.out,HB.out,HWB.out,HWC.out];with_reducible refine Yac rfl 24 _ _ rfl (B+2) Y Y rfl rfl 24 hC2 HSY rfl HOY ?_;intro w5 hh5 hg5)|(with_reducible refine Yac rfl 24 _ _ rfl (B+2) Y Y rfl rfl 24 hC2 HSY rfl HOY ?_;intro w5 hh5 hg5))
   refine bodyPost_ret (Yaj rfl _ _ (B+2) 24 _ (0,0) _ rfl hh5 Tryd.underlying24 rfl HSY) rfl ?_;exact⟨by rw[F1.out,HY.out];rfl,by rw[HB.out];exact hbC.grown hg5 (by omega) (fun k hk=>by injection hk with hk;omega)⟩
 ·have n3:(kk==3)=false:=by simp;omega
  have n4:(kk==4)=false:=by simp;omega
  have F1:=Lib.hid (show E=G by rw[HG.out,HI.out,n3,n4];rfl);have HGS:=Ybc G.1;have HGO:=Ya5 384 G.1;have HGY:Y.size=(arn 384 G.1).size:=by rw[HYZ,Yah]
  obtain⟨V,hV⟩:∃V,arn 384 G.1=V:=⟨_,rfl⟩;rw[hV] at CV HGS HGO HGY;have HV:=Lib.hid hV;clear HG HI h3 hV
  go_enter Tryd.func14,Tryd.ntmps14
  go_wp2_with (first|(rw[HWA.out,HB.out,HWB.out,HWC.out];with_reducible refine wpList_load_row rfl 31 _ rfl B rfl 31 X (0,0) _ hC0 Tryd.underlying31 rfl HSX ?_)|(with_reducible refine wpList_load_row rfl 31 _ rfl B rfl 31 X (0,0) _ hC0 Tryd.underlying31 rfl HSX ?_)|(with_reducible refine wpList_load_mid rfl 32 _ rfl (B+1) 4 rfl Z _ rg Tryd.underlying32 rfl HS2 ?_))
  refine CV.mono ?_;rintro e x1 ⟨rfl,hb1⟩;have d2:=(hb1.block (B+2) (by omega)).trans hC2;have hbw:=hbC.trans (hb1.mono (by omega))
  go_wp2_with (with_reducible refine Yac rfl 24 _ _ rfl (B+2) V Y rfl rfl 24 d2 HGS HGY HGO ?_;intro w5 hh5 hg5)
  refine bodyPost_ret (Yaj rfl _ _ (B+2) 24 _ (0,0) _ rfl hh5 Tryd.underlying24 rfl HGS) rfl ?_;exact⟨by rw[F1.out,HV.out];rfl,by rw[HB.out];exact hbw.grown hg5 (by have:=hb1.size;omega) (fun k hk=>by injection hk with hk;omega)⟩
structure Yiq (B:Nat) (w x:World) (b:Nat) (V:Array Value) (y:World):Prop where
 cell:y.heap[b]? =some (.cells V 24 (0,0))
 low:Below B w y
 far:B≤b
theorem Ygg {B:Nat}{w x:World}(h:Below B w x)(hB:B≤w.heap.size)(V:Array Value):∃(b:Nat) (y:World),x.heap.size=b∧x.alloc (.cells V 24 (0,0))=y∧y.heap.size=b+1∧Yiq B w x b V y:=
 ⟨_,_,rfl,rfl,by simp,heap_alloc_new x _,h.alloc (Nat.le_trans hB h.size) _,Nat.le_trans hB h.size⟩
theorem Yiq.below {B:Nat}{w x:World}{b:Nat}{V:Array Value}{y z:World}(h:Yiq B w x b V y)(hb:Below y.heap.size y z)(hs:b<y.heap.size):Yiq B w x b V z:=
 ⟨(hb.block b hs).trans h.cell,h.low.trans (hb.mono (by have:=h.far;omega)),h.far⟩
set_option maxRecDepth 1000000 in
set_option maxHeartbeats 8000000 in
theorem Yj2 (k:Int)(v:Nat→Value)(n:Nat→Nat)(f:Nat→Nat→Int)(m:Int)(c:Cel)(p:Nat→Option Addr)(nn kk:Nat→Nat)(q:Int)(w:World)(h:Ykn w v n f)(hc:Yc8 w c p nn)(hT:Ydr w)(hS:Ya9 w)(hP:Ybj w)(hD:Yby w):
  Calls Tryd.prog 9 #[.agg (frA k v),.int .i64 m,.agg (Ydg c fun i=>.slice (p i) (nn i) (kk i)).toArray,.int .i64 q] w (Ycy (Yqo k n f m c q) w):=by
 obtain⟨B,wA,wB,wC,hB,hwA,hwB,hwC,hzA,hzB,hzC,hC0,hC1,hC2,hbC⟩:=Yif w (.cells (frA k v) 31 (0,0)) (.cells (Ydg c fun i=>.slice (p i) (nn i) (kk i)).toArray 37 (0,0)) (.cells (arn 384 fun _=>0) 24 (0,0));have UP:∀x,Below (B+3) wC x→Below w.heap.size w x:=fun x hx=>hB▸hbC.trans (hx.mono (by omega))
 have CR:=Yl2 c p nn kk q wC (hc.below (hB▸hbC)) (hT.below (hB▸hbC)) (hS.below (hB▸hbC)) (hP.below (hB▸hbC)) (hD.below (hB▸hbC));unfold Yf3 at CR;have CP:=fun(x:World) (hx:Below (B+3) wC x)=>Yj8 k v n f m c (fun i=>.slice (p i) (nn i) (kk i)) x (h.below (UP x hx));have CS:=fun(a b:Nat→Int) (x:World)=>Yhn a b x
 have C0:=Lib.hid (fun(x:World) (hx:Below (B+3) wC x)=>((hx.block B (by omega)).trans hC0:x.heap[B]? =some (.cells (frA k v) 31 (0,0))));have C1:=Lib.hid (fun(x:World) (hx:Below (B+3) wC x)=>((hx.block (B+1) (by omega)).trans hC1:x.heap[B+1]? =some (.cells (Ydg c fun i=>.slice (p i) (nn i) (kk i)).toArray 37 (0,0))))
 have C2:=Lib.hid (fun(x:World) (hx:Below (B+3) wC x)=>((hx.block (B+2) (by omega)).trans hC2:x.heap[B+2]? =some (.cells (arn 384 fun _=>0) 24 (0,0))));have hz0:=Ycm;have hbz:=Ygj;have HSX:=Yed Ygd k v;have HSA:=Yeo c (fun i=>.slice (p i) (nn i) (kk i));have HS:=Lib.hid (fun(g:Nat→Int)=>Ybc g);have HO:=Lib.hid (fun(g:Nat→Int)=>Ya5 384 g)
 have HZ:=Lib.hid (fun(g:Nat→Int)=>(by rw[Yah,Yah]:(arn 384 fun _=>0).size=(arn 384 g).size));have HSY:=Ybc fun _=>0;have HOY:=Ya5 384 fun _=>0;have HG:=Lib.hid (show Yqo k n f m c q=if Ycq true c then (if (Yks k n f m c).2=0 then (Ybi (Yks k n f m c).1 (ptF (Ydz c q)),0) else (fun _=>0,(Yks k n f m c).2)) else (fun _=>0,12) from rfl)
 have HR:=Lib.hid (show Yoh (Ydz c q) c=if Ycq true c then (ptF (Ydz c q),0) else (fun _=>0,12) from rfl);generalize Yqo k n f m c q=E at *;generalize Yoh (Ydz c q) c=R at *;generalize ptF (Ydz c q)=S at *;generalize Yks k n f m c=D at *;generalize Ycq true c=ok at *;unfold Ycy at CP ⊢;have c0:=C0.out wC (Below.refl _ _);have c1:=C1.out wC (Below.refl _ _);obtain⟨X,hX⟩:∃X,frA k v=X:=⟨_,rfl⟩
 obtain⟨A,hA⟩:∃A,(Ydg c fun i=>.slice (p i) (nn i) (kk i)).toArray=A:=⟨_,rfl⟩;obtain⟨Y,hY⟩:∃Y,(arn 384 fun _=>0)=Y:=⟨_,rfl⟩;have HY:=Lib.hid hY;rw[hX] at hwA HSX c0 C0 CP ⊢;rw[hA] at hwB HSA c1 C1 CP CR ⊢;rw[hY] at hwC hz0 hbz HSY HOY HZ C2;have HWA:=Lib.hid hwA;have HWB:=Lib.hid hwB;have HWC:=Lib.hid hwC;have HB:=Lib.hid hB;have HBW:=Lib.hid hbC
 replace CP:=Lib.hid CP
 replace CS:=Lib.hid CS
 have HZC:=Lib.hid hzC;clear hX hA hY hwA hwB hwC hB hbC hC0 hC1 hC2 h hc hT hS hP hD UP hzA hzB hzC;cases ok with
 |false=>
  have F1:=Lib.hid (show E=(fun _=>0,12) from HG.out.trans rfl);rw[show R=(fun _=>0,12) from HR.out.trans rfl] at CR;have CR':Calls Tryd.prog 13 #[.agg A,.int .i64 q] wC fun e y=>e=.returned (.tuple #[.agg Y,.int .i64 12])∧Below wC.heap.size wC y:=by rw[←HY.out];exact CR
  clear CR HG HR
  go_enter Tryd.func9,Tryd.ntmps9
  go_wp2_with (rw[HWA.out,HB.out,HWB.out,HWC.out];with_reducible refine wpList_load_row rfl 37 _ rfl (B+1) rfl 37 A (0,0) _ c1 Tryd.underlying37 rfl HSA ?_)
  refine CR'.mono ?_;rintro e x1 ⟨rfl,hb1⟩;rw[HZC.out] at hb1;obtain⟨b1,y1,hx1,hy1,hs1,M1⟩:=Ygg hb1 (by have:=HZC.out;omega) Y;have d2:=C2.out y1 M1.low;have hbw:=HBW.out.trans (M1.low.mono (by omega));have HX1:=Lib.hid hx1;have HY1:=Lib.hid hy1;have l1:=M1.far;clear hx1 hy1 hb1 c0 c1 M1
  go_wp2_with (first|(with_reducible refine Yar rfl 24 _ _ rfl Y Y 24 rfl rfl HSY rfl HOY ?_;rw[HY1.out,HX1.out])|(with_reducible refine Yac rfl 24 _ _ rfl (B+2) Y Y rfl rfl 24 d2 HSY rfl HOY ?_;intro w5 hh5 hg5))
  refine bodyPost_ret (Yaj rfl _ _ (B+2) 24 _ (0,0) _ rfl hh5 Tryd.underlying24 rfl HSY) rfl ?_;exact⟨by rw[F1.out,HY.out];rfl,by rw[HB.out];exact hbw.grown hg5 (by omega) (fun k hk=>by injection hk with hk;omega)⟩
 |true=>
  rw[show R=(S,0) from HR.out.trans rfl] at CR;have HG2:=Lib.hid (show E=if D.2=0 then (Ybi D.1 S,0) else (fun _=>0,D.2) from HG.out.trans rfl);have HSS:=HS.out S;have HOS:=HO.out S;have HZS:=HZ.out S;have HSD:=HS.out D.1;have HOD:=HO.out D.1;have HZD:=HZ.out D.1;have CS1:=Lib.hid (fun x=>CS.out D.1 S x);have HSE:=HS.out (Ybi D.1 S);have HOE:=HO.out (Ybi D.1 S);have HZE:=HZ.out (Ybi D.1 S)
  obtain⟨D1,D2⟩:=D;dsimp only at CR CP CS1 HG2 HSD HOD HZD HSE HOE HZE;obtain⟨U,hU⟩:∃U,arn 384 S=U:=⟨_,rfl⟩;obtain⟨V,hV⟩:∃V,arn 384 D1=V:=⟨_,rfl⟩;obtain⟨T,hT⟩:∃T,arn 384 (Ybi D1 S)=T:=⟨_,rfl⟩;rw[hU] at CR HSS HOS HZS CS1;rw[hV] at CP HSD HOD HZD CS1;rw[hT] at CS1 HSE HOE HZE;have HT:=Lib.hid hT;clear hU hV hT HG HR HS HO HZ CS
  go_enter Tryd.func9,Tryd.ntmps9
  go_wp2_with (rw[HWA.out,HB.out,HWB.out,HWC.out];with_reducible refine wpList_load_row rfl 37 _ rfl (B+1) rfl 37 A (0,0) _ c1 Tryd.underlying37 rfl HSA ?_)
  refine CR.mono ?_;rintro e x1 ⟨rfl,hb1⟩;rw[HZC.out] at hb1;obtain⟨b1,y1,hx1,hy1,hs1,M1⟩:=Ygg hb1 (by have:=HZC.out;omega) U;have e0:=C0.out y1 M1.low;have e1:=C1.out y1 M1.low;have cp:=CP.out y1 M1.low;have HX1:=Lib.hid hx1;have HY1:=Lib.hid hy1;clear hx1 hy1 hb1 c0 c1 CR
  go_wp2_with (first|(with_reducible refine Yar rfl 24 _ _ rfl U Y 24 rfl rfl HSS HZS HOS ?_;rw[HY1.out,HX1.out])|(with_reducible refine wpList_load_row rfl 31 _ rfl B rfl 31 X (0,0) _ e0 Tryd.underlying31 rfl HSX ?_)|(with_reducible refine wpList_load_row rfl 37 _ rfl (B+1) rfl 37 A (0,0) _ e1 Tryd.underlying37 rfl HSA ?_))
  refine cp.mono ?_;rintro e x2 ⟨rfl,hb2⟩;have M2:=M1.below hb2 (by omega);have hs2:=hb2.size;obtain⟨b3,y3,hx3,hy3,hs3,M3⟩:=Ygg M2.low (by have:=HZC.out;omega) V;have g1:y3.heap[b1]? =some (.cells U 24 (0,0)):=by rw[←hy3];exact Yaq M2.cell
  have g3:=M3.cell;have d2:=C2.out y3 M3.low;have hbw:=HBW.out.trans (M3.low.mono (by omega));have HX3:=Lib.hid hx3;have HY3:=Lib.hid hy3;have CS3:=CS1.out y3;have l3:=M3.far;clear hx3 hy3 hb2 e0 e1 cp M1 M2 CP CS1;by_cases h0:D2=0
  ·have F1:=Lib.hid (show E=(Ybi D1 S,0) by rw[HG2.out,if_pos h0]);subst h0
   go_wp2_with (first|(with_reducible refine Yar rfl 24 _ _ rfl V Y 24 rfl rfl HSD HZD HOD ?_;rw[HY3.out,HX3.out])|(with_reducible refine wpList_load_row rfl 24 _ rfl b3 rfl 24 V (0,0) _ g3 Tryd.underlying24 rfl HSD ?_)|(with_reducible refine wpList_load_row rfl 24 _ rfl b1 rfl 24 U (0,0) _ g1 Tryd.underlying24 rfl HSS ?_))
   refine CS3.mono ?_;rintro e x4 ⟨rfl,hb4⟩;have d4:=(hb4.block (B+2) (by omega)).trans d2;have hb5:=hbw.trans (hb4.mono (by omega));have hs4:=hb4.size
   go_wp2_with (with_reducible refine Yac rfl 24 _ _ rfl (B+2) T Y rfl rfl 24 d4 HSE HZE HOE ?_;intro w5 hh5 hg5)
   refine bodyPost_ret (Yaj rfl _ _ (B+2) 24 _ (0,0) _ rfl hh5 Tryd.underlying24 rfl HSE) rfl ?_;exact⟨by rw[F1.out,←HT.out];rfl,by rw[HB.out];exact hb5.grown hg5 (by omega) (fun k hk=>by injection hk with hk;omega)⟩
  ·have F1:=Lib.hid (show E=(fun _=>0,D2) by rw[HG2.out,if_neg h0]);have t1:(D2 != 0)=true:=by simpa [bne] using h0
   clear h0
   go_wp2_with (first|(with_reducible refine Yar rfl 24 _ _ rfl V Y 24 rfl rfl HSD HZD HOD ?_;rw[HY3.out,HX3.out])|(with_reducible refine Yac rfl 24 _ _ rfl (B+2) Y Y rfl rfl 24 d2 HSY rfl HOY ?_;intro w5 hh5 hg5))
   refine bodyPost_ret (Yaj rfl _ _ (B+2) 24 _ (0,0) _ rfl hh5 Tryd.underlying24 rfl HSY) rfl ?_;exact⟨by rw[F1.out,HY.out];rfl,by rw[HB.out];exact hbw.grown hg5 (by omega) (fun k hk=>by injection hk with hk;omega)⟩
end Go.Proofs.YtdnjefldijjgdaaDoor