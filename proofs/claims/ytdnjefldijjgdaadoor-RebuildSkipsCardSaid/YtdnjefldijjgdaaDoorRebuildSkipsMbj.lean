/- No condition. -/
import Derived.Test.YtdnjefldijjgdaaDoorRebuildSkipsMa
import Derived.Test.YtdnjefldijjgdaaDoorRebuildSkipsMx
import Derived.Test.YtdnjefldijjgdaaDoorRebuildSkipsMbc
import Derived.Test.YtdnjefldijjgdaaDoorRebuildSkipsMbi
namespace Go.Proofs.YtdnjefldijjgdaaDoor
open Go.RowKit Go.Lib
theorem Yhv {w x:World}{b N:Nat}(h:w.grownBy x (some b))(hN:N≤b)(hz:N≤w.heap.size):Below N w x:=
 ⟨h.os,h.tape,h.output,h.size,fun k hk=>h.block k (by omega) (fun e=>by injection e with e;omega)⟩
set_option maxRecDepth 100000 in
theorem Yeq (c:Cel)(p:Nat→Option Addr)(n k:Nat→Nat)(w:World)(hc:Ycz w c p n)(hT:Yd5 w):Calls Tryd.prog 40 #[.agg (Yck c fun i=>.slice (p i) (n i) (k i)).toArray] w fun e w'=>e=.returned (.bool (Yd9 c))∧Below w.heap.size w w':=by
 have hput:=fun x (hx:Below w.heap.size w x)=>Yfw c p n k (x.heap.size+1) x.heap.size [] (x.alloc Yh1) (Ydf.fresh rfl (Nat.lt_succ_self _)) (by simp) (by simp) (fun y hy=>by
  have h1:=hx.trans ((((Below.refl _ x).alloc (Nat.le_refl _) Yh1).trans (Yhv hy (Nat.le_refl _) (by simp))).mono hx.size);exact⟨hT.below h1,hc.below h1⟩)
 obtain⟨A,hA,-,-,-,-,-,-,-,-⟩:=Ycd c fun i=>.slice (p i) (n i) (k i);obtain⟨R,w0,hR,hw0,hz0,hb0,HSZ,hbx⟩:=Yc2 w hA;rw[hA];obtain⟨ev,hev⟩:∃ev:Int,(if Yd9 c=true then 0 else 7)=ev:=⟨_,rfl⟩;have HEV:Hid ((ev==0)=Yd9 c):=Lib.hid (by rw[←hev];cases Yd9 c <;> rfl)
 have HPUT:Hid (∀x,(Below R w x∧x.heap[R]? =some (.cells A 37 (0,0)))→Calls Tryd.prog 56 #[.pointer (some ⟨x.heap.size,0,none⟩),.agg A] (x.alloc Yh1) fun e y=>e=.returned (.int .i64 ev)∧Below R w y∧y.heap[R]? =some (.cells A 37 (0,0))):=Lib.hid (by
  intro x hx;have h1:=hput x (by rw[hR];exact hx.1);rw[hA] at h1;refine h1.mono ?_;rintro e y ⟨i,_,_,hg,h2⟩;have h3:Below x.heap.size x y:=((Below.refl _ x).alloc (Nat.le_refl _) Yh1).trans (Yhv hg (Nat.le_refl _) (by simp));refine⟨?_,hx.1.trans (h3.mono (by have:=hx.1.size;omega)),(h3.block R (Array.getElem?_eq_some_iff.1 hx.2).1).trans hx.2⟩;rcases h2 with ⟨_,h4,rfl⟩|⟨h4,rfl⟩
  ·rw[←hev,h4];rfl
  ·rw[←hev,h4];rfl)
 have hbx0:=(hbx w0 (Below.refl _ _)).1;have HW:=Lib.hid hw0;have HR:=Lib.hid hR;clear hA hw0 hR hbx hput hc hT hev;generalize Yd9 c=bb at *
 go_enter Tryd.func40,Tryd.ntmps40
 go_wp2
 rw[HW.out,HR.out];refine wp_region_held_drew (S:=fun x=>Below R w x∧x.heap[R]? =some (.cells A 37 (0,0))) (by kernel_rfl) ⟨hb0.drew,hbx0⟩ (fun hH=>?_)
 refine Yc3 1 (some 4) (v:=.agg A) rfl rfl (by kernel_rfl) (by kernel_rfl) (by kernel_rfl) (fun _ _ _ h=>h) hH (Or.inl ⟨by kernel_rfl,fun x hx=>Ya7 (ty:=37) (x:=.tmp 1) (ad:=⟨R,0,none⟩) (by kernel_rfl) (by kernel_rfl) (run_loadVar_row x (R) _ _ A (0,0) _ (hx.2) Tryd.underlying37 rfl HSZ)⟩) ?_
 try simp only[Yaa]
 refine wpAnyH_ready (rs:=[0]) (by kernel_rfl) (by simp) ?_;refine AllReadyH.cons rfl (fun K hK=>?_) AllReadyH.nil
 go_simp
 go_wp2_with fail
 obtain⟨x0,hx0⟩:∃x0,w0.drew=x0:=⟨_,rfl⟩;rw[hx0] at hH ⊢;have hxz:R<x0.heap.size:=by rw[←hx0];show R<w0.heap.size;omega
 have hX:=hH;refine(Ypi _).mono ?_;rintro e w2 ⟨rfl,rfl⟩;refine hK.out _ _ (⟨hH.1.alloc (Nat.le_of_lt hxz) _,Yak hH.2⟩) (fun hH2=>?_);clear hK K hH;have hH:=hH2;clear hH2
 try simp only[Yaa]
 refine wpAnyH_ready (rs:=[2]) (by kernel_rfl) (by simp) ?_;refine AllReadyH.cons rfl (fun K hK=>?_) AllReadyH.nil
 go_simp
 go_wp2_with fail
 refine(HPUT.out x0 hX).mono ?_;rintro e w3 ⟨rfl,hb3,hk3⟩;refine hK.out _ _ (⟨hb3,hk3⟩) (fun hH2=>?_);clear hK K hH;have hH:=hH2;clear hH2
 try simp only[Yaa]
 refine Ymw 3 (some 6) hH ?_
 try simp only[Yaa]
 refine Ymw 4 (some 2) hH ?_
 try simp only[Yaa]
 refine wpAnyH_done (by kernel_rfl) ?_ _
 go_wp2
 go_ret
 exact⟨Yae HEV.out,by rw[HR.out];exact hH.1⟩
set_option maxRecDepth 100000 in
theorem Yi3 (inter:Bool)(c:Cel)(p:Nat→Option Addr)(n k:Nat→Nat)(w:World)(hc:Ycz w c p n)(hT:Yd5 w)(hS:Yba w):Calls Tryd.prog 27 #[.bool inter,.agg (Yck c fun i=>.slice (p i) (n i) (k i)).toArray] w fun e w'=>e=.returned (.bool (Ycl inter c))∧Below w.heap.size w w':=by
 have hba:=fun x (hx:Below w.heap.size w x)=>Yi8 c p n k x (hc.below hx);have hki:=fun x=>Yfx inter c.kind x;have hst:=fun x (hx:Below w.heap.size w x)=>Yfy c (fun i=>.slice (p i) (n i) (k i)) x (hS.below hx);have hve:=fun x=>Yer c (fun i=>.slice (p i) (n i) (k i)) x;have hbl:=fun x (hx:Below w.heap.size w x)=>Yeq c p n k x (hc.below hx) (hT.below hx)
 have ZC:Hid (Ycl inter c=((decide (0≤c.stuff)&&decide (c.stuff≤64))&&(if c.skip then inter&&Yhf c else (Yi9 inter c.kind&&Yll c.kind c.step)&&(Yls c.kind c.mx c.my&&Yd9 c)))):=Lib.hid rfl;obtain⟨A,hA,f0,f1,f2,f3,f4,f5,-,-⟩:=Ycd c fun i=>.slice (p i) (n i) (k i);obtain⟨R,w0,hR,hw0,hz0,hb0,HSZ,hbx⟩:=Yc2 w hA;simp only[hA] at hba hst hve hbl;rw[hR] at hba hst hbl;rw[hA];have HW:=Lib.hid hw0
 have HR:=Lib.hid hR;have HBX:=Lib.hid hbx;have HBA:=Lib.hid hba;have HST:=Lib.hid hst;have HBL:=Lib.hid hbl;clear hA hw0 hR hbx hba hst hbl hc hT hS;generalize Ycl inter c=z at *;generalize Yhf c=zb at *;generalize Yll c.kind c.step=sb at *;generalize Yls c.kind c.mx c.my=vb at *;generalize Yd9 c=bb at *;by_cases h0:c.stuff<0
 ·have t0:decide (c.stuff<0)=true:=decide_eq_true h0;have Z:=Lib.hid (show z=false by rw[ZC.out,decide_eq_false (by omega:¬ 0≤c.stuff)];rfl);clear h0 ZC
  go_enter Tryd.func27,Tryd.ntmps27
  go_wp2
  go_ret
  exact⟨Yae Z.out.symm,by rw[HW.out,HR.out];exact hb0⟩
 by_cases h1:64<c.stuff
 ·have t0:decide (c.stuff<0)=false:=decide_eq_false h0;have t1:decide (64<c.stuff)=true:=decide_eq_true h1;have Z:=Lib.hid (show z=false by rw[ZC.out,decide_eq_false (by omega:¬ c.stuff≤64),Bool.and_false];rfl);clear h0 h1 ZC
  go_enter Tryd.func27,Tryd.ntmps27
  go_wp2
  go_ret
  exact⟨Yae Z.out.symm,by rw[HW.out,HR.out];exact hb0⟩
 have t0:decide (c.stuff<0)=false:=decide_eq_false h0;have t1:decide (64<c.stuff)=false:=decide_eq_false h1;rw[decide_eq_true (by omega:0≤c.stuff),decide_eq_true (by omega:c.stuff≤64)] at ZC;clear h0 h1;cases hsk:c.skip with
 |true=>
  rw[hsk] at ZC f1;cases inter with
  |false=>
   have Z:=Lib.hid (show z=false by rw[ZC.out];rfl)
   go_enter Tryd.func27,Tryd.ntmps27
   go_wp2
   go_ret
   exact⟨Yae Z.out.symm,by rw[HW.out,HR.out];exact hb0⟩
  |true=>
   have Z:=Lib.hid (show z=zb by rw[ZC.out];rfl)
   go_enter Tryd.func27,Tryd.ntmps27
   go_wp2_with (with_reducible refine Yax (by kernel_rfl) 37 _ rfl w.heap.size rfl 37 A (0,0) _ (heap_alloc_new w _) Tryd.underlying37 rfl HSZ ?_)
   rw[HW.out,HR.out];refine(HBA.out _ hb0).mono ?_;rintro e w1 ⟨rfl,hb1⟩;have hb2:=hb0.trans (hb1.mono (by omega))
   go_wp2
   go_ret
   exact⟨Yae Z.out.symm,by rw[HR.out];exact hb2⟩
 |false=>
  rw[hsk] at ZC f1;have Z:=Lib.hid (show z=(Yi9 inter c.kind&&sb&&(vb&&bb)) by rw[ZC.out];rfl);clear ZC;generalize Yi9 inter c.kind=kb at *
  go_enter Tryd.func27,Tryd.ntmps27
  go_wp2_with fail
  rw[HW.out,HR.out];refine(hki _).mono ?_;rintro e w1 ⟨rfl,rfl⟩;obtain⟨g1,g2⟩:=HBX.out _ (Below.refl _ _);cases kb with
  |false=>
   go_wp2
   go_ret
   exact⟨Yae (by rw[Z.out];rfl),by rw[HR.out];exact hb0⟩
  |true=>
   go_wp2_with (with_reducible refine Yax (by kernel_rfl) 37 _ rfl R rfl 37 A (0,0) _ g1 Tryd.underlying37 rfl HSZ ?_)
   refine(HST.out _ hb0).mono ?_;rintro e w1 ⟨rfl,hb1⟩;have hb2:=hb0.trans (hb1.mono (by omega));have hz1:=hb1.size;have g1:=(HBX.out _ (hb1.mono (by omega))).1;cases sb with
   |false=>
    go_wp2
    go_ret
    exact⟨Yae (by rw[Z.out];rfl),by rw[HR.out];exact hb2⟩
   |true=>
    go_wp2_with (with_reducible refine Yax (by kernel_rfl) 37 _ rfl R rfl 37 A (0,0) _ g1 Tryd.underlying37 rfl HSZ ?_)
    refine(hve _).mono ?_;rintro e w2 ⟨rfl,hb3⟩;have hb4:=hb2.trans (hb3.mono (by omega));have hz2:=hb3.size;have g1:=(HBX.out _ ((hb1.trans (hb3.mono hz1)).mono (by omega))).1;cases vb with
    |false=>
     go_wp2
     go_ret
     exact⟨Yae (by rw[Z.out];rfl),by rw[HR.out];exact hb4⟩
    |true=>
     go_wp2_with (with_reducible refine Yax (by kernel_rfl) 37 _ rfl R rfl 37 A (0,0) _ g1 Tryd.underlying37 rfl HSZ ?_)
     refine(HBL.out _ hb4).mono ?_;rintro e w3 ⟨rfl,hb5⟩;have hb6:=hb4.trans (hb5.mono (by omega))
     go_wp2
     go_ret
     exact⟨Yae (by rw[Z.out];rfl),by rw[HR.out];exact hb6⟩
def Yqs (fn:FuncId)(X:Array Value)(F:Nat→Nat→Int)(w:World):Prop:=∀(b:Nat),b<6→∀x,Below w.heap.size w x→Calls Tryd.prog fn #[.agg X,.int .i64 (b:Int)] x (Yaz (F b) x)
def Ygm (F:Nat→Nat→Int)(c:Cel)(w:World)(e:Ending)(w':World):Prop:=e=.returned (.tuple #[.agg (arn 384 (Ypx F c).1),.int .i64 (Ypx F c).2])∧Below w.heap.size w w'
theorem Yg4 (w:World):(Instr.build 24 #[]).run Tryd.prog w=.ok (.agg (arn 384 fun _=>0)) w:=run_build w _ #[] _ (by kernel_rfl)
set_option maxRecDepth 100000 in
set_option maxHeartbeats 2000000 in
theorem Yij (fn:FuncId)(X:Array Value)(F:Nat→Nat→Int)(c:Cel)(p:Nat→Option Addr)(n k:Nat→Nat)(w:World)(hc:Ycz w c p n)(hT:Yd5 w)(hS:Yba w)(hen:∀args x,(callFunc fn args).run Tryd.prog x=.ok (.enter fn args) x)(hg:Yqs fn X F w):
  Calls Tryd.prog 20 #[.agg (Yck c fun i=>.slice (p i) (n i) (k i)).toArray,.func (.func fn) #[.agg X] #[]] w (Ygm F c w):=by
 have hri:=fun x (hx:Below w.heap.size w x)=>Yi3 true c p n k x (hc.below hx) (hT.below hx) (hS.below hx);obtain⟨A,hA⟩:∃A,(Yck c fun i=>.slice (p i) (n i) (k i)).toArray=A:=⟨_,rfl⟩;have HSA:(Tryd.prog.info? 37).map (·.size)=some A.size:=hA▸Ydz c _;obtain⟨Y,hY⟩:∃Y,(arn 384 fun _=>0)=Y:=⟨_,rfl⟩;have hz0:∀w,(zeroValue 24).run Tryd.prog w=.ok (.agg Y) w:=by rw[←hY];exact Yb9
 have hbz:∀w,(Instr.build 24 #[]).run Tryd.prog w=.ok (.agg Y) w:=by rw[←hY];exact Yg4
 have HSY:(Tryd.prog.info? 24).map (·.size)=some Y.size:=hY▸Ya6 _;have HOY:Y.all (·.oneCell')=true:=hY▸Yay _ _;have HYZ:Y.size=384:=by rw[←hY,Yai]
 obtain⟨B,wA,wB,hB,hwA,hwB,hzA,hzB,hC0,hC1,hbB⟩:=Yh0 w (.cells A 37 (0,0)) (.cells Y 24 (0,0));rw[hA] at hri ⊢;have RI:=Lib.hid (fun(x:World) (hx:Below (B+2) wB x)=>hri x (hB▸hbB.trans (hx.mono (by omega))));have TG:=Lib.hid (fun(b:Nat) (hb:b<6) (x:World) (hx:Below B w x)=>hg b hb x (hB▸hx));have HY:=Lib.hid hY;have HWA:=Lib.hid hwA;have HWB:=Lib.hid hwB;have HB:=Lib.hid hB;have HBW:=Lib.hid hbB
 have RG:=Lib.hid (show Ypx F c=if Ycl true c then (ptF F,0) else (fun _=>0,12) from rfl);clear hA hY hwA hwB hB hbB hri hg hc hT hS;generalize Ycl true c=ok at RI RG
 go_enter Tryd.func20,Tryd.ntmps20
 go_wp2_with (rw[HWA.out,HB.out,HWB.out];with_reducible refine wpList_load_row rfl 37 _ rfl B rfl 37 A (0,0) _ hC0 Tryd.underlying37 rfl HSA ?_)
 refine(RI.out _ (Below.refl _ _)).mono ?_;rintro e x1 ⟨rfl,hb1⟩;rw[hzB] at hb1;have hz1:=hb1.size;have d0:=(hb1.block B (by omega)).trans hC0;have d1:=(hb1.block (B+1) (by omega)).trans hC1;have hb2:Below B w x1:=HBW.out.trans (hb1.mono (by omega));clear hC0 hC1 hb1;cases ok with
 |false=>
  have F1:=Lib.hid (show Ypx F c=(fun _=>0,12) from RG.out.trans rfl)
  go_wp2_with (with_reducible refine Yac rfl 24 _ _ rfl (B+1) Y Y rfl rfl 24 d1 HSY rfl HOY ?_;intro w5 hh5 hg5)
  refine bodyPost_ret (Yah rfl _ _ (B+1) 24 _ (0,0) _ rfl hh5 Tryd.underlying24 rfl HSY) rfl ?_;exact⟨by rw[F1.out,HY.out];rfl,by rw[HB.out];exact hb2.grown hg5 (by omega) (fun k hk=>by injection hk with hk;omega)⟩
 |true=>
  have F1:=Lib.hid (show Ypx F c=(ptF F,0) from RG.out.trans rfl);obtain⟨D,hD⟩:∃D,x1.heap.size=D:=⟨_,rfl⟩;obtain⟨x2,hx2⟩:∃x2,x1.alloc (.cells Y 24 (0,0))=x2:=⟨_,rfl⟩;have k1:x2.heap[B+1]? =some (.cells Y 24 (0,0)):=by rw[←hx2];exact Yak d1
  have k2:x2.heap[D]? =some (Ycg 24 384 (Yna F (fun _ _=>0) 0)):=by
   rw[←hx2,←hD,Yph,Yps];refine(heap_alloc_new x1 _).trans ?_;rw[←HY.out]
   rfl
  have kb:Below B w x2:=by rw[←hx2];exact hb2.alloc (by omega) _
  have kz:D+1≤x2.heap.size:=by rw[←hx2];simp;omega
  have hDB:B+2≤D:=by omega
  have HX2:=Lib.hid hx2;have HD:=Lib.hid hD;clear hx2 hD d0 d1 hb2
  go_wp2
  rw[HX2.out,HD.out]
  go_loopw [12] (fun z wr=>∃i:Nat,i≤6∧z=.int .i64 i∧wr.heap[B+1]? =some (.cells Y 24 (0,0))∧wr.heap[D]? =some (Ycg 24 384 (Yna F (fun _ _=>0) i))∧Below B w wr∧D+1≤wr.heap.size) (fun z _=>6-(RowKit.intOf z).toNat)
  case atStart=>exact⟨0,by omega,rfl,k1,k2,kb,kz⟩
  case round=>
   clear k1 k2 kb kz hz1 hzB hzA;obtain⟨i,hi6,rfl,k1,k2,kb,kz⟩:=hrel;by_cases hlt:i<6
   ·have t0:decide ((i:Int)<6)=true:=by simp;omega
    have ct:=TG.out i hlt wr kb;obtain⟨V,hV⟩:∃V,Yat (F i)=V:=⟨_,rfl⟩;unfold Yaz at ct;rw[hV] at ct;have HSV:(Tryd.prog.info? 22).map (·.size)=some V.size:=hV▸Yan _;have HV:=Lib.hid hV;clear hV
    go_wp2_with fail
    refine ct.mono ?_;rintro e x3 ⟨rfl,hb3⟩;have j1:=(hb3.block (B+1) (by omega)).trans k1;have j2:=(hb3.block D (by omega)).trans k2;have jb:Below B w x3:=kb.trans (hb3.mono (by omega));have jz:=Nat.le_trans kz hb3.size;clear k1 k2 kb kz hb3 ct
    go_wp2_with (refine Yio rfl 22 _ _ rfl D i _ (by omega) 24 F (fun _ _=>0) (F i) V HV.out rfl rfl j2 hlt (fun _ _=>rfl) HSV ?_;intro w5 hh5 hg5)
    have m1:=(hg5.block (B+1) (by omega) (by intro e;injection e with e;omega)).trans j1;have mb:Below B w w5:=jb.grown hg5 (by omega) (fun k hk=>by injection hk with hk;omega);have mz:=Nat.le_trans jz hg5.size
    go_roundw
    case rel=>exact⟨i+1,by omega,by go_num,m1,hh5.out,mb,mz⟩
    case measure=>simp[RowKit.intOf];omega
   ·obtain rfl:i=6:=by omega
    have t0:decide ((6:Int)<6)=false:=by simp
    obtain⟨V,hV⟩:∃V,arn 384 (ptF F)=V:=⟨_,rfl⟩;have k3:wr.heap[D]? =some (.cells V 24 (0,0)):=by rw[←hV,←Yrk F (fun _ _=>0)];exact k2
    have HSV:(Tryd.prog.info? 24).map (·.size)=some V.size:=hV▸Ya6 _;have HOV:V.all (·.oneCell')=true:=hV▸Yay _ _;have HYV:Y.size=V.size:=by rw[HYZ,←hV,Yai]
    have HV:=Lib.hid hV;clear hV k2
    go_wp2_with (first|(with_reducible refine wpList_load_row rfl 24 _ rfl D rfl 24 V (0,0) _ k3 Tryd.underlying24 rfl HSV ?_)|(with_reducible refine Yac rfl 24 _ _ rfl (B+1) V Y rfl rfl 24 k1 HSV HYV HOV ?_;intro w5 hh5 hg5))
    refine bodyPost_ret (Yah rfl _ _ (B+1) 24 _ (0,0) _ rfl hh5 Tryd.underlying24 rfl HSV) rfl ?_;exact⟨by rw[F1.out,←HV.out];rfl,by rw[HB.out];exact kb.grown hg5 (by omega) (fun k hk=>by injection hk with hk;omega)⟩
theorem Yp5:∀args x,(callFunc 21 args).run Tryd.prog x=.ok (.enter 21 args) x:=Yjw Tryd.func21 (by kernel_rfl) rfl
set_option maxRecDepth 100000 in
set_option maxHeartbeats 2000000 in
theorem Yfv (a0 a1 a2 a3 a4 a5 a6 a7 a8 a9 a10 a11 a12 a13 a14 a15 a16 a17:Value)(q:Int)(V:Array Value)(er:Int)(w:World)(HSV:(Tryd.prog.info? 24).map (·.size)=some V.size)(HOV:V.all (·.oneCell')=true)
  (th:∀x,Below w.heap.size w x→Calls Tryd.prog 20 #[.agg #[a0,a1,a2,a3,a4,a5,a6,a7,a8,a9,a10,a11,a12,a13,a14,a15,a16,a17],.func (.func 21) #[.agg #[a0,a1,a2,a3,a4,a5,a6,a7,a8,a9,a10,a11,a12,a13,a14,a15,a16,a17,.int .i64 q]] #[]] x fun e y=>e=.returned (.tuple #[.agg V,.int .i64 er])∧Below x.heap.size x y):
  Calls Tryd.prog 13 #[.agg #[a0,a1,a2,a3,a4,a5,a6,a7,a8,a9,a10,a11,a12,a13,a14,a15,a16,a17],.int .i64 q] w fun e w'=>e=.returned (.tuple #[.agg V,.int .i64 er])∧Below w.heap.size w w':=by
 have HSA:(Tryd.prog.info? 37).map (·.size)=some #[a0,a1,a2,a3,a4,a5,a6,a7,a8,a9,a10,a11,a12,a13,a14,a15,a16,a17].size:=by kernel_rfl
 have hmf:∀(fn:Fn) (first cap:Array Value) (w:World),(Instr.makeFunc fn first cap).run Tryd.prog w=.ok (.func fn first cap) w:=fun _ _ _ _=>rfl;obtain⟨Y,hY⟩:∃Y,(arn 384 fun _=>0)=Y:=⟨_,rfl⟩;have hz0:∀w,(zeroValue 24).run Tryd.prog w=.ok (.agg Y) w:=by rw[←hY];exact Yb9
 have HYV:Y.size=V.size:=by
  have h1:=Yno;rw[HSV] at h1;rw[←hY,Yai];injection h1 with h1;exact h1.symm
 obtain⟨B,wA,wB,hB,hwA,hwB,hzA,hzB,hC0,hC1,hbB⟩:=Yh0 w (.cells #[a0,a1,a2,a3,a4,a5,a6,a7,a8,a9,a10,a11,a12,a13,a14,a15,a16,a17] 37 (0,0)) (.cells Y 24 (0,0));have t1:=th wB (hB▸hbB);rw[hB];have HWA:=Lib.hid hwA;have HWB:=Lib.hid hwB;have HB:=Lib.hid hB;clear hY hwA hwB hB th
 go_enter Tryd.func13,Tryd.ntmps13
 go_wp2_with (first|(rw[HWA.out,HB.out,HWB.out];with_reducible refine wpList_load_row rfl 37 _ rfl B rfl 37 #[a0,a1,a2,a3,a4,a5,a6,a7,a8,a9,a10,a11,a12,a13,a14,a15,a16,a17] (0,0) _ hC0 Tryd.underlying37 rfl HSA ?_)|(with_reducible refine wpList_load_row rfl 37 _ rfl B rfl 37 #[a0,a1,a2,a3,a4,a5,a6,a7,a8,a9,a10,a11,a12,a13,a14,a15,a16,a17] (0,0) _ hC0 Tryd.underlying37 rfl HSA ?_))
 refine t1.mono ?_;rintro e x1 ⟨rfl,hb1⟩;rw[hzB] at hb1;have hz1:=hb1.size;have d1:=(hb1.block (B+1) (by omega)).trans hC1;have hb2:Below B w x1:=hbB.trans (hb1.mono (by omega))
 go_wp2_with (with_reducible refine Yac rfl 24 _ _ rfl (B+1) V Y rfl rfl 24 d1 HSV HYV HOV ?_;intro w5 hh5 hg5)
 refine bodyPost_ret (Yah rfl _ _ (B+1) 24 _ (0,0) _ rfl hh5 Tryd.underlying24 rfl HSV) rfl ?_;exact⟨rfl,hb2.grown hg5 (by omega) (fun k hk=>by injection hk with hk;omega)⟩
theorem Yne (c:Cel)(p:Nat→Option Addr)(n k:Nat→Nat)(q:Int)(w:World)(hc:Ycz w c p n)(hT:Yd5 w)(hS:Yba w)(hP:Ybg w)(hD:Yb3 w):
  Calls Tryd.prog 13 #[.agg (Yck c fun i=>.slice (p i) (n i) (k i)).toArray,.int .i64 q] w (Ygm (Yds c q) c w):=by
 refine Yfv _ _ _ _ _ _ _ _ _ _ _ _ _ _ _ _ _ _ q (arn 384 (Ypx (Yds c q) c).1) (Ypx (Yds c q) c).2 w (Ya6 _) (Yay _ _) fun x hx=>?_;exact Yij 21 (Yfo c (fun i=>.slice (p i) (n i) (k i)) q).toArray (Yds c q) c p n k x (hc.below hx) (hT.below hx) (hS.below hx) Yp5 fun b hb y hy=>by
  have h2:Below w.heap.size w y:=hx.trans (hy.mono hx.size);exact Yg9 c p n k q b y hb (hc.below h2) (hP.below h2) (hD.below h2)
end Go.Proofs.YtdnjefldijjgdaaDoor