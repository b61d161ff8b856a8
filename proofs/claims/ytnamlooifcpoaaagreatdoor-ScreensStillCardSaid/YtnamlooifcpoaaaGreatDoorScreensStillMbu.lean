/- No condition. -/
import Derived.Test.YtnamlooifcpoaaaGreatDoorScreensStillMa
import Derived.Test.YtnamlooifcpoaaaGreatDoorScreensStillMy
import Derived.Test.YtnamlooifcpoaaaGreatDoorScreensStillMbp
import Derived.Test.YtnamlooifcpoaaaGreatDoorScreensStillMbt
namespace Go.Proofs.YtnamlooifcpoaaaGreatDoor
open Go.RowKit Go.Lib
theorem Ylu {w x:World}{b N:Nat}(h:w.grownBy x (some b))(hN:N≤b)(hz:N≤w.heap.size):Below N w x:=
 ⟨h.os,h.tape,h.output,h.size,fun k hk=>h.block k (by omega) (fun e=>by injection e with e;omega)⟩
set_option maxRecDepth 100000 in
theorem Ygu (c:Cel)(p:Nat→Option Addr)(n k:Nat→Nat)(w:World)(hc:Yeb w c p n)(hT:Yfd w):Calls Tryz.prog 122 #[.agg (Ybp c fun i=>.slice (p i) (n i) (k i)).toArray] w fun e w'=>e=.returned (.bool (Yf6 c))∧Below w.heap.size w w':=by
 have hput:=fun x (hx:Below w.heap.size w x)=>Yig c p n k (x.heap.size+1) x.heap.size [] (x.alloc Yfu) (Ydd.fresh rfl (Nat.lt_succ_self _)) (by simp) (by simp) (fun y hy=>by
  have h1:=hx.trans ((((Below.refl _ x).alloc (Nat.le_refl _) Yfu).trans (Ylu hy (Nat.le_refl _) (by simp))).mono hx.size);exact⟨hT.below h1,hc.below h1⟩)
 obtain⟨A,hA,-,-,-,-,-,-,-,-⟩:=Yc2 c fun i=>.slice (p i) (n i) (k i);obtain⟨R,w0,hR,hw0,hz0,hb0,HSZ,hbx⟩:=Yee w hA;rw[hA];obtain⟨ev,hev⟩:∃ev:Int,(if Yf6 c=true then 0 else 7)=ev:=⟨_,rfl⟩;have HEV:Hid ((ev==0)=Yf6 c):=Lib.hid (by rw[←hev];cases Yf6 c <;> rfl)
 have HPUT:Hid (∀x,(Below R w x∧x.heap[R]? =some (.cells A 48 (0,0)))→Calls Tryz.prog 149 #[.pointer (some ⟨x.heap.size,0,none⟩),.agg A] (x.alloc Yfu) fun e y=>e=.returned (.int .i64 ev)∧Below R w y∧y.heap[R]? =some (.cells A 48 (0,0))):=Lib.hid (by
  intro x hx;have h1:=hput x (by rw[hR];exact hx.1);rw[hA] at h1;refine h1.mono ?_;rintro e y ⟨i,_,_,hg,h2⟩;have h3:Below x.heap.size x y:=((Below.refl _ x).alloc (Nat.le_refl _) Yfu).trans (Ylu hg (Nat.le_refl _) (by simp));refine⟨?_,hx.1.trans (h3.mono (by have:=hx.1.size;omega)),(h3.block R (Array.getElem?_eq_some_iff.1 hx.2).1).trans hx.2⟩;rcases h2 with ⟨_,h4,rfl⟩|⟨h4,rfl⟩
  ·rw[←hev,h4];rfl
  ·rw[←hev,h4];rfl)
 have hbx0:=(hbx w0 (Below.refl _ _)).1;have HW:=Lib.hid hw0;have HR:=Lib.hid hR;clear hA hw0 hR hbx hput hc hT hev;generalize Yf6 c=bb at *
 go_enter Tryz.func122,Tryz.ntmps122
 go_wp2
 rw[HW.out,HR.out];refine wp_region_held_drew (S:=fun x=>Below R w x∧x.heap[R]? =some (.cells A 48 (0,0))) (by kernel_rfl) ⟨hb0.drew,hbx0⟩ (fun hH=>?_)
 refine Yaj 1 (some 4) (v:=.agg A) rfl rfl (by kernel_rfl) (by kernel_rfl) (by kernel_rfl) (fun _ _ _ h=>h) hH (Or.inl ⟨by kernel_rfl,fun x hx=>Ya8 (ty:=48) (x:=.tmp 1) (ad:=⟨R,0,none⟩) (by kernel_rfl) (by kernel_rfl) (run_loadVar_row x (R) _ _ A (0,0) _ (hx.2) Tryz.underlying48 rfl HSZ)⟩) ?_
 try simp only[Yaa]
 refine wpAnyH_ready (rs:=[0]) (by kernel_rfl) (by simp) ?_;refine AllReadyH.cons rfl (fun K hK=>?_) AllReadyH.nil
 go_simp
 go_wp2_with fail
 obtain⟨x0,hx0⟩:∃x0,w0.drew=x0:=⟨_,rfl⟩;rw[hx0] at hH ⊢;have hxz:R<x0.heap.size:=by rw[←hx0];show R<w0.heap.size;omega
 have hX:=hH;refine(Yo2 _).mono ?_;rintro e w2 ⟨rfl,rfl⟩;refine hK.out _ _ (⟨hH.1.alloc (Nat.le_of_lt hxz) _,Yaq hH.2⟩) (fun hH2=>?_);clear hK K hH;have hH:=hH2;clear hH2
 try simp only[Yaa]
 refine wpAnyH_ready (rs:=[2]) (by kernel_rfl) (by simp) ?_;refine AllReadyH.cons rfl (fun K hK=>?_) AllReadyH.nil
 go_simp
 go_wp2_with fail
 refine(HPUT.out x0 hX).mono ?_;rintro e w3 ⟨rfl,hb3,hk3⟩;refine hK.out _ _ (⟨hb3,hk3⟩) (fun hH2=>?_);clear hK K hH;have hH:=hH2;clear hH2
 try simp only[Yaa]
 refine Yal 3 (some 6) hH ?_
 try simp only[Yaa]
 refine Yal 4 (some 2) hH ?_
 try simp only[Yaa]
 refine wpAnyH_done (by kernel_rfl) ?_ _
 go_wp2
 go_ret
 exact⟨Yae HEV.out,by rw[HR.out];exact hH.1⟩
set_option maxRecDepth 100000 in
theorem Ye6 (inter:Bool)(c:Cel)(p:Nat→Option Addr)(n k:Nat→Nat)(w:World)(hc:Yeb w c p n)(hT:Yfd w)(hS:Ybh w):Calls Tryz.prog 95 #[.bool inter,.agg (Ybp c fun i=>.slice (p i) (n i) (k i)).toArray] w fun e w'=>e=.returned (.bool (Ybb inter c))∧Below w.heap.size w w':=by
 have hba:=fun x (hx:Below w.heap.size w x)=>Ynl c p n k x (hc.below hx);have hki:=fun x=>Yii inter c.kind x;have hst:=fun x (hx:Below w.heap.size w x)=>Yij c (fun i=>.slice (p i) (n i) (k i)) x (hS.below hx);have hve:=fun x=>Ygv c (fun i=>.slice (p i) (n i) (k i)) x;have hbl:=fun x (hx:Below w.heap.size w x)=>Ygu c p n k x (hc.below hx) (hT.below hx)
 have ZC:Hid (Ybb inter c=((decide (0≤c.stuff)&&decide (c.stuff≤64))&&(if c.skip then inter&&Yip c else (Yib inter c.kind&&Yq5 c.kind c.step)&&(Yrf c.kind c.mx c.my&&Yf6 c)))):=Lib.hid rfl;obtain⟨A,hA,f0,f1,f2,f3,f4,f5,-,-⟩:=Yc2 c fun i=>.slice (p i) (n i) (k i);obtain⟨R,w0,hR,hw0,hz0,hb0,HSZ,hbx⟩:=Yee w hA;simp only[hA] at hba hst hve hbl;rw[hR] at hba hst hbl;rw[hA];have HW:=Lib.hid hw0
 have HR:=Lib.hid hR;have HBX:=Lib.hid hbx;have HBA:=Lib.hid hba;have HST:=Lib.hid hst;have HBL:=Lib.hid hbl;clear hA hw0 hR hbx hba hst hbl hc hT hS;generalize Ybb inter c=z at *;generalize Yip c=zb at *;generalize Yq5 c.kind c.step=sb at *;generalize Yrf c.kind c.mx c.my=vb at *;generalize Yf6 c=bb at *;by_cases h0:c.stuff<0
 ·have t0:decide (c.stuff<0)=true:=decide_eq_true h0;have Z:=Lib.hid (show z=false by rw[ZC.out,decide_eq_false (by omega:¬ 0≤c.stuff)];rfl);clear h0 ZC
  go_enter Tryz.func95,Tryz.ntmps95
  go_wp2
  go_ret
  exact⟨Yae Z.out.symm,by rw[HW.out,HR.out];exact hb0⟩
 by_cases h1:64<c.stuff
 ·have t0:decide (c.stuff<0)=false:=decide_eq_false h0;have t1:decide (64<c.stuff)=true:=decide_eq_true h1;have Z:=Lib.hid (show z=false by rw[ZC.out,decide_eq_false (by omega:¬ c.stuff≤64),Bool.and_false];rfl);clear h0 h1 ZC
  go_enter Tryz.func95,Tryz.ntmps95
  go_wp2
  go_ret
  exact⟨Yae Z.out.symm,by rw[HW.out,HR.out];exact hb0⟩
 have t0:decide (c.stuff<0)=false:=decide_eq_false h0;have t1:decide (64<c.stuff)=false:=decide_eq_false h1;rw[decide_eq_true (by omega:0≤c.stuff),decide_eq_true (by omega:c.stuff≤64)] at ZC;clear h0 h1;cases hsk:c.skip with
 |true=>
  rw[hsk] at ZC f1;cases inter with
  |false=>
   have Z:=Lib.hid (show z=false by rw[ZC.out];rfl)
   go_enter Tryz.func95,Tryz.ntmps95
   go_wp2
   go_ret
   exact⟨Yae Z.out.symm,by rw[HW.out,HR.out];exact hb0⟩
  |true=>
   have Z:=Lib.hid (show z=zb by rw[ZC.out];rfl)
   go_enter Tryz.func95,Tryz.ntmps95
   go_wp2_with (with_reducible refine Yah (by kernel_rfl) 48 _ rfl w.heap.size rfl 48 A (0,0) _ (heap_alloc_new w _) Tryz.underlying48 rfl HSZ ?_)
   rw[HW.out,HR.out];refine(HBA.out _ hb0).mono ?_;rintro e w1 ⟨rfl,hb1⟩;have hb2:=hb0.trans (hb1.mono (by omega))
   go_wp2
   go_ret
   exact⟨Yae Z.out.symm,by rw[HR.out];exact hb2⟩
 |false=>
  rw[hsk] at ZC f1;have Z:=Lib.hid (show z=(Yib inter c.kind&&sb&&(vb&&bb)) by rw[ZC.out];rfl);clear ZC;generalize Yib inter c.kind=kb at *
  go_enter Tryz.func95,Tryz.ntmps95
  go_wp2_with fail
  rw[HW.out,HR.out];refine(hki _).mono ?_;rintro e w1 ⟨rfl,rfl⟩;obtain⟨g1,g2⟩:=HBX.out _ (Below.refl _ _);cases kb with
  |false=>
   go_wp2
   go_ret
   exact⟨Yae (by rw[Z.out];rfl),by rw[HR.out];exact hb0⟩
  |true=>
   go_wp2_with (with_reducible refine Yah (by kernel_rfl) 48 _ rfl R rfl 48 A (0,0) _ g1 Tryz.underlying48 rfl HSZ ?_)
   refine(HST.out _ hb0).mono ?_;rintro e w1 ⟨rfl,hb1⟩;have hb2:=hb0.trans (hb1.mono (by omega));have hz1:=hb1.size;have g1:=(HBX.out _ (hb1.mono (by omega))).1;cases sb with
   |false=>
    go_wp2
    go_ret
    exact⟨Yae (by rw[Z.out];rfl),by rw[HR.out];exact hb2⟩
   |true=>
    go_wp2_with (with_reducible refine Yah (by kernel_rfl) 48 _ rfl R rfl 48 A (0,0) _ g1 Tryz.underlying48 rfl HSZ ?_)
    refine(hve _).mono ?_;rintro e w2 ⟨rfl,hb3⟩;have hb4:=hb2.trans (hb3.mono (by omega));have hz2:=hb3.size;have g1:=(HBX.out _ ((hb1.trans (hb3.mono hz1)).mono (by omega))).1;cases vb with
    |false=>
     go_wp2
     go_ret
     exact⟨Yae (by rw[Z.out];rfl),by rw[HR.out];exact hb4⟩
    |true=>
     go_wp2_with (with_reducible refine Yah (by kernel_rfl) 48 _ rfl R rfl 48 A (0,0) _ g1 Tryz.underlying48 rfl HSZ ?_)
     refine(HBL.out _ hb4).mono ?_;rintro e w3 ⟨rfl,hb5⟩;have hb6:=hb4.trans (hb5.mono (by omega))
     go_wp2
     go_ret
     exact⟨Yae (by rw[Z.out];rfl),by rw[HR.out];exact hb6⟩
def Yx6 (fn:FuncId)(X:Array Value)(F:Nat→Nat→Int)(w:World):Prop:=∀(b:Nat),b<6→∀x,Below w.heap.size w x→Calls Tryz.prog fn #[.agg X,.int .i64 (b:Int)] x (Ybg (F b) x)
def Yjz (F:Nat→Nat→Int)(c:Cel)(w:World)(e:Ending)(w':World):Prop:=e=.returned (.tuple #[.agg (arn 384 (Yw0 F c).1),.int .i64 (Yw0 F c).2])∧Below w.heap.size w w'
theorem Ykm (w:World):(Instr.build 62 #[]).run Tryz.prog w=.ok (.agg (arn 384 fun _=>0)) w:=run_build w _ #[] _ (by kernel_rfl)
set_option maxRecDepth 100000 in
set_option maxHeartbeats 2000000 in
theorem Ymv (fn:FuncId)(X:Array Value)(F:Nat→Nat→Int)(c:Cel)(p:Nat→Option Addr)(n k:Nat→Nat)(w:World)(hc:Yeb w c p n)(hT:Yfd w)(hS:Ybh w)(hen:∀args x,(callFunc fn args).run Tryz.prog x=.ok (.enter fn args) x)(hg:Yx6 fn X F w):
  Calls Tryz.prog 77 #[.agg (Ybp c fun i=>.slice (p i) (n i) (k i)).toArray,.func (.func fn) #[.agg X] #[]] w (Yjz F c w):=by
 have hri:=fun x (hx:Below w.heap.size w x)=>Ye6 true c p n k x (hc.below hx) (hT.below hx) (hS.below hx);obtain⟨A,hA⟩:∃A,(Ybp c fun i=>.slice (p i) (n i) (k i)).toArray=A:=⟨_,rfl⟩;have HSA:(Tryz.prog.info? 48).map (·.size)=some A.size:=hA▸Yfr c _;obtain⟨Y,hY⟩:∃Y,(arn 384 fun _=>0)=Y:=⟨_,rfl⟩;have hz0:∀w,(zeroValue 62).run Tryz.prog w=.ok (.agg Y) w:=by rw[←hY];exact Yek
 have hbz:∀w,(Instr.build 62 #[]).run Tryz.prog w=.ok (.agg Y) w:=by rw[←hY];exact Ykm
 have HSY:(Tryz.prog.info? 62).map (·.size)=some Y.size:=hY▸Yb6 _;have HOY:Y.all (·.oneCell')=true:=hY▸Ybz _ _;have HYZ:Y.size=384:=by rw[←hY,Yar]
 obtain⟨B,wA,wB,hB,hwA,hwB,hzA,hzB,hC0,hC1,hbB⟩:=Ygs w (.cells A 48 (0,0)) (.cells Y 62 (0,0));rw[hA] at hri ⊢;have RI:=Lib.hid (fun(x:World) (hx:Below (B+2) wB x)=>hri x (hB▸hbB.trans (hx.mono (by omega))));have TG:=Lib.hid (fun(b:Nat) (hb:b<6) (x:World) (hx:Below B w x)=>hg b hb x (hB▸hx));have HY:=Lib.hid hY;have HWA:=Lib.hid hwA;have HWB:=Lib.hid hwB;have HB:=Lib.hid hB;have HBW:=Lib.hid hbB
 have RG:=Lib.hid (show Yw0 F c=if Ybb true c then (ptF F,0) else (fun _=>0,12) from rfl);clear hA hY hwA hwB hB hbB hri hg hc hT hS;generalize Ybb true c=ok at RI RG
 go_enter Tryz.func77,Tryz.ntmps77
 go_wp2_with (rw[HWA.out,HB.out,HWB.out];with_reducible refine wpList_load_row rfl 48 _ rfl B rfl 48 A (0,0) _ hC0 Tryz.underlying48 rfl HSA ?_)
 refine(RI.out _ (Below.refl _ _)).mono ?_;rintro e x1 ⟨rfl,hb1⟩;rw[hzB] at hb1;have hz1:=hb1.size;have d0:=(hb1.block B (by omega)).trans hC0;have d1:=(hb1.block (B+1) (by omega)).trans hC1;have hb2:Below B w x1:=HBW.out.trans (hb1.mono (by omega));clear hC0 hC1 hb1;cases ok with
 |false=>
  have F1:=Lib.hid (show Yw0 F c=(fun _=>0,12) from RG.out.trans rfl)
  go_wp2_with (with_reducible refine Yad rfl 62 _ _ rfl (B+1) Y Y rfl rfl 62 d1 HSY rfl HOY ?_;intro w5 hh5 hg5)
  refine bodyPost_ret (Yak rfl _ _ (B+1) 62 _ (0,0) _ rfl hh5 Tryz.underlying62 rfl HSY) rfl ?_;exact⟨by rw[F1.out,HY.out];rfl,by rw[HB.out];exact hb2.grown hg5 (by omega) (fun k hk=>by injection hk with hk;omega)⟩
 |true=>
  have F1:=Lib.hid (show Yw0 F c=(ptF F,0) from RG.out.trans rfl);obtain⟨D,hD⟩:∃D,x1.heap.size=D:=⟨_,rfl⟩;obtain⟨x2,hx2⟩:∃x2,x1.alloc (.cells Y 62 (0,0))=x2:=⟨_,rfl⟩;have k1:x2.heap[B+1]? =some (.cells Y 62 (0,0)):=by rw[←hx2];exact Yaq d1
  have k2:x2.heap[D]? =some (Ydn 62 384 (Ytd F (fun _ _=>0) 0)):=by
   rw[←hx2,←hD,Ywh,Ywq];refine(heap_alloc_new x1 _).trans ?_;rw[←HY.out]
   rfl
  have kb:Below B w x2:=by rw[←hx2];exact hb2.alloc (by omega) _
  have kz:D+1≤x2.heap.size:=by rw[←hx2];simp;omega
  have hDB:B+2≤D:=by omega
  have HX2:=Lib.hid hx2;have HD:=Lib.hid hD;clear hx2 hD d0 d1 hb2
  go_wp2
  rw[HX2.out,HD.out]
  go_loopw [12] (fun z wr=>∃i:Nat,i≤6∧z=.int .i64 i∧wr.heap[B+1]? =some (.cells Y 62 (0,0))∧wr.heap[D]? =some (Ydn 62 384 (Ytd F (fun _ _=>0) i))∧Below B w wr∧D+1≤wr.heap.size) (fun z _=>6-(RowKit.intOf z).toNat)
  case atStart=>exact⟨0,by omega,rfl,k1,k2,kb,kz⟩
  case round=>
   clear k1 k2 kb kz hz1 hzB hzA;obtain⟨i,hi6,rfl,k1,k2,kb,kz⟩:=hrel;by_cases hlt:i<6
   ·have t0:decide ((i:Int)<6)=true:=by simp;omega
    have ct:=TG.out i hlt wr kb;obtain⟨V,hV⟩:∃V,Ya7 (F i)=V:=⟨_,rfl⟩;unfold Ybg at ct;rw[hV] at ct;have HSV:(Tryz.prog.info? 60).map (·.size)=some V.size:=hV▸Yau _;have HV:=Lib.hid hV;clear hV
    go_wp2_with fail
    refine ct.mono ?_;rintro e x3 ⟨rfl,hb3⟩;have j1:=(hb3.block (B+1) (by omega)).trans k1;have j2:=(hb3.block D (by omega)).trans k2;have jb:Below B w x3:=kb.trans (hb3.mono (by omega));have jz:=Nat.le_trans kz hb3.size;clear k1 k2 kb kz hb3 ct
    go_wp2_with (refine Ym2 rfl 60 _ _ rfl D i _ (by omega) 62 F (fun _ _=>0) (F i) V HV.out rfl rfl j2 hlt (fun _ _=>rfl) HSV ?_;intro w5 hh5 hg5)
    have m1:=(hg5.block (B+1) (by omega) (by intro e;injection e with e;omega)).trans j1;have mb:Below B w w5:=jb.grown hg5 (by omega) (fun k hk=>by injection hk with hk;omega);have mz:=Nat.le_trans jz hg5.size
    go_roundw
    case rel=>exact⟨i+1,by omega,by go_num,m1,hh5.out,mb,mz⟩
    case measure=>simp[RowKit.intOf];omega
   ·obtain rfl:i=6:=by omega
    have t0:decide ((6:Int)<6)=false:=by simp
    obtain⟨V,hV⟩:∃V,arn 384 (ptF F)=V:=⟨_,rfl⟩;have k3:wr.heap[D]? =some (.cells V 62 (0,0)):=by rw[←hV,←Yy5 F (fun _ _=>0)];exact k2
    have HSV:(Tryz.prog.info? 62).map (·.size)=some V.size:=hV▸Yb6 _;have HOV:V.all (·.oneCell')=true:=hV▸Ybz _ _;have HYV:Y.size=V.size:=by rw[HYZ,←hV,Yar]
    have HV:=Lib.hid hV;clear hV k2
    go_wp2_with (first|(with_reducible refine wpList_load_row rfl 62 _ rfl D rfl 62 V (0,0) _ k3 Tryz.underlying62 rfl HSV ?_)|(with_reducible refine Yad rfl 62 _ _ rfl (B+1) V Y rfl rfl 62 k1 HSV HYV HOV ?_;intro w5 hh5 hg5))
    refine bodyPost_ret (Yak rfl _ _ (B+1) 62 _ (0,0) _ rfl hh5 Tryz.underlying62 rfl HSV) rfl ?_;exact⟨by rw[F1.out,←HV.out];rfl,by rw[HB.out];exact kb.grown hg5 (by omega) (fun k hk=>by injection hk with hk;omega)⟩
theorem Yw8:∀args x,(callFunc 78 args).run Tryz.prog x=.ok (.enter 78 args) x:=Yov Tryz.func78 (by kernel_rfl) rfl
set_option maxRecDepth 100000 in
set_option maxHeartbeats 2000000 in
theorem Yif (a0 a1 a2 a3 a4 a5 a6 a7 a8 a9 a10 a11 a12 a13 a14 a15 a16 a17:Value)(q:Int)(V:Array Value)(er:Int)(w:World)(HSV:(Tryz.prog.info? 62).map (·.size)=some V.size)(HOV:V.all (·.oneCell')=true)
  (th:∀x,Below w.heap.size w x→Calls Tryz.prog 77 #[.agg #[a0,a1,a2,a3,a4,a5,a6,a7,a8,a9,a10,a11,a12,a13,a14,a15,a16,a17],.func (.func 78) #[.agg #[a0,a1,a2,a3,a4,a5,a6,a7,a8,a9,a10,a11,a12,a13,a14,a15,a16,a17,.int .i64 q]] #[]] x fun e y=>e=.returned (.tuple #[.agg V,.int .i64 er])∧Below x.heap.size x y):
  Calls Tryz.prog 52 #[.agg #[a0,a1,a2,a3,a4,a5,a6,a7,a8,a9,a10,a11,a12,a13,a14,a15,a16,a17],.int .i64 q] w fun e w'=>e=.returned (.tuple #[.agg V,.int .i64 er])∧Below w.heap.size w w':=by
 have HSA:(Tryz.prog.info? 48).map (·.size)=some #[a0,a1,a2,a3,a4,a5,a6,a7,a8,a9,a10,a11,a12,a13,a14,a15,a16,a17].size:=by kernel_rfl
 have hmf:∀(fn:Fn) (first cap:Array Value) (w:World),(Instr.makeFunc fn first cap).run Tryz.prog w=.ok (.func fn first cap) w:=fun _ _ _ _=>rfl;obtain⟨Y,hY⟩:∃Y,(arn 384 fun _=>0)=Y:=⟨_,rfl⟩;have hz0:∀w,(zeroValue 62).run Tryz.prog w=.ok (.agg Y) w:=by rw[←hY];exact Yek
 have HYV:Y.size=V.size:=by
  have h1:=Ytv;rw[HSV] at h1;rw[←hY,Yar];injection h1 with h1;exact h1.symm
 obtain⟨B,wA,wB,hB,hwA,hwB,hzA,hzB,hC0,hC1,hbB⟩:=Ygs w (.cells #[a0,a1,a2,a3,a4,a5,a6,a7,a8,a9,a10,a11,a12,a13,a14,a15,a16,a17] 48 (0,0)) (.cells Y 62 (0,0));have t1:=th wB (hB▸hbB);rw[hB];have HWA:=Lib.hid hwA;have HWB:=Lib.hid hwB;have HB:=Lib.hid hB;clear hY hwA hwB hB th
 go_enter Tryz.func52,Tryz.ntmps52
 go_wp2_with (first|(rw[HWA.out,HB.out,HWB.out];with_reducible refine wpList_load_row rfl 48 _ rfl B rfl 48 #[a0,a1,a2,a3,a4,a5,a6,a7,a8,a9,a10,a11,a12,a13,a14,a15,a16,a17] (0,0) _ hC0 Tryz.underlying48 rfl HSA ?_)|(with_reducible refine wpList_load_row rfl 48 _ rfl B rfl 48 #[a0,a1,a2,a3,a4,a5,a6,a7,a8,a9,a10,a11,a12,a13,a14,a15,a16,a17] (0,0) _ hC0 Tryz.underlying48 rfl HSA ?_))
 refine t1.mono ?_;rintro e x1 ⟨rfl,hb1⟩;rw[hzB] at hb1;have hz1:=hb1.size;have d1:=(hb1.block (B+1) (by omega)).trans hC1;have hb2:Below B w x1:=hbB.trans (hb1.mono (by omega))
 go_wp2_with (with_reducible refine Yad rfl 62 _ _ rfl (B+1) V Y rfl rfl 62 d1 HSV HYV HOV ?_;intro w5 hh5 hg5)
 refine bodyPost_ret (Yak rfl _ _ (B+1) 62 _ (0,0) _ rfl hh5 Tryz.underlying62 rfl HSV) rfl ?_;exact⟨rfl,hb2.grown hg5 (by omega) (fun k hk=>by injection hk with hk;omega)⟩
theorem Ytj (c:Cel)(p:Nat→Option Addr)(n k:Nat→Nat)(q:Int)(w:World)(hc:Yeb w c p n)(hT:Yfd w)(hS:Ybh w)(hP:Ybt w)(hD:Yck w):
  Calls Tryz.prog 52 #[.agg (Ybp c fun i=>.slice (p i) (n i) (k i)).toArray,.int .i64 q] w (Yjz (Yik c q) c w):=by
 refine Yif _ _ _ _ _ _ _ _ _ _ _ _ _ _ _ _ _ _ q (arn 384 (Yw0 (Yik c q) c).1) (Yw0 (Yik c q) c).2 w (Yb6 _) (Ybz _ _) fun x hx=>?_;exact Ymv 78 (Yqj c (fun i=>.slice (p i) (n i) (k i)) q).toArray (Yik c q) c p n k x (hc.below hx) (hT.below hx) (hS.below hx) Yw8 fun b hb y hy=>by
  have h2:Below w.heap.size w y:=hx.trans (hy.mono hx.size);exact Ykr c p n k q b y hb (hc.below h2) (hP.below h2) (hD.below h2)
end Go.Proofs.YtnamlooifcpoaaaGreatDoor