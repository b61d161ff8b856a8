/- No condition. -/
import Derived.Test.YtdnjefldijjgdaaGreatDoorRebuildCellsMa
import Derived.Test.YtdnjefldijjgdaaGreatDoorRebuildCellsMx
import Derived.Test.YtdnjefldijjgdaaGreatDoorRebuildCellsMbd
import Derived.Test.YtdnjefldijjgdaaGreatDoorRebuildCellsMbj
namespace Go.Proofs.YtdnjefldijjgdaaGreatDoor
open Go.RowKit Go.Lib
theorem Yji {w x:World}{b N:Nat}(h:w.grownBy x (some b))(hN:N≤b)(hz:N≤w.heap.size):Below N w x:=
 ⟨h.os,h.tape,h.output,h.size,fun k hk=>h.block k (by omega) (fun e=>by injection e with e;omega)⟩
set_option maxRecDepth 100000 in
theorem Yfs (c:Cel)(p:Nat→Option Addr)(n k:Nat→Nat)(w:World)(hc:Yc6 w c p n)(hT:Ye2 w):Calls Tryz.prog 60 #[.agg (Ycs c fun i=>.slice (p i) (n i) (k i)).toArray] w fun e w'=>e=.returned (.bool (Ydo c))∧Below w.heap.size w w':=by
 have hput:=fun x (hx:Below w.heap.size w x)=>Yg4 c p n k (x.heap.size+1) x.heap.size [] (x.alloc Yjq) (Yef.fresh rfl (Nat.lt_succ_self _)) (by simp) (by simp) (fun y hy=>by
  have h1:=hx.trans ((((Below.refl _ x).alloc (Nat.le_refl _) Yjq).trans (Yji hy (Nat.le_refl _) (by simp))).mono hx.size);exact⟨hT.below h1,hc.below h1⟩)
 obtain⟨A,hA,-,-,-,-,-,-,-,-⟩:=Ycl c fun i=>.slice (p i) (n i) (k i);obtain⟨R,w0,hR,hw0,hz0,hb0,HSZ,hbx⟩:=Yc9 w hA;rw[hA];obtain⟨ev,hev⟩:∃ev:Int,(if Ydo c=true then 0 else 7)=ev:=⟨_,rfl⟩;have HEV:Hid ((ev==0)=Ydo c):=Lib.hid (by rw[←hev];cases Ydo c <;> rfl)
 have HPUT:Hid (∀x,(Below R w x∧x.heap[R]? =some (.cells A 31 (0,0)))→Calls Tryz.prog 84 #[.pointer (some ⟨x.heap.size,0,none⟩),.agg A] (x.alloc Yjq) fun e y=>e=.returned (.int .i64 ev)∧Below R w y∧y.heap[R]? =some (.cells A 31 (0,0))):=Lib.hid (by
  intro x hx;have h1:=hput x (by rw[hR];exact hx.1);rw[hA] at h1;refine h1.mono ?_;rintro e y ⟨i,_,_,hg,h2⟩;have h3:Below x.heap.size x y:=((Below.refl _ x).alloc (Nat.le_refl _) Yjq).trans (Yji hg (Nat.le_refl _) (by simp));refine⟨?_,hx.1.trans (h3.mono (by have:=hx.1.size;omega)),(h3.block R (Array.getElem?_eq_some_iff.1 hx.2).1).trans hx.2⟩;rcases h2 with ⟨_,h4,rfl⟩|⟨h4,rfl⟩
  ·rw[←hev,h4];rfl
  ·rw[←hev,h4];rfl)
 have hbx0:=(hbx w0 (Below.refl _ _)).1;have HW:=Lib.hid hw0;have HR:=Lib.hid hR;clear hA hw0 hR hbx hput hc hT hev;generalize Ydo c=bb at *
 go_enter Tryz.func60,Tryz.ntmps60
 go_wp2
 rw[HW.out,HR.out];refine wp_region_held_drew (S:=fun x=>Below R w x∧x.heap[R]? =some (.cells A 31 (0,0))) (by kernel_rfl) ⟨hb0.drew,hbx0⟩ (fun hH=>?_)
 refine Yd1 1 (some 4) (v:=.agg A) rfl rfl (by kernel_rfl) (by kernel_rfl) (by kernel_rfl) (fun _ _ _ h=>h) hH (Or.inl ⟨by kernel_rfl,fun x hx=>Ybs (ty:=31) (x:=.tmp 1) (ad:=⟨R,0,none⟩) (by kernel_rfl) (by kernel_rfl) (run_loadVar_row x (R) _ _ A (0,0) _ (hx.2) Tryz.underlying31 rfl HSZ)⟩) ?_
 try simp only[Yaa]
 refine wpAnyH_ready (rs:=[0]) (by kernel_rfl) (by simp) ?_;refine AllReadyH.cons rfl (fun K hK=>?_) AllReadyH.nil
 go_simp
 go_wp2_with fail
 obtain⟨x0,hx0⟩:∃x0,w0.drew=x0:=⟨_,rfl⟩;rw[hx0] at hH ⊢;have hxz:R<x0.heap.size:=by rw[←hx0];show R<w0.heap.size;omega
 have hX:=hH;refine(Yrm _).mono ?_;rintro e w2 ⟨rfl,rfl⟩;refine hK.out _ _ (⟨hH.1.alloc (Nat.le_of_lt hxz) _,Yao hH.2⟩) (fun hH2=>?_);clear hK K hH;have hH:=hH2;clear hH2
 try simp only[Yaa]
 refine wpAnyH_ready (rs:=[2]) (by kernel_rfl) (by simp) ?_;refine AllReadyH.cons rfl (fun K hK=>?_) AllReadyH.nil
 go_simp
 go_wp2_with fail
 refine(HPUT.out x0 hX).mono ?_;rintro e w3 ⟨rfl,hb3,hk3⟩;refine hK.out _ _ (⟨hb3,hk3⟩) (fun hH2=>?_);clear hK K hH;have hH:=hH2;clear hH2
 try simp only[Yaa]
 refine Yox 3 (some 6) hH ?_
 try simp only[Yaa]
 refine Yox 4 (some 2) hH ?_
 try simp only[Yaa]
 refine wpAnyH_done (by kernel_rfl) ?_ _
 go_wp2
 go_ret
 exact⟨Yac HEV.out,by rw[HR.out];exact hH.1⟩
set_option maxRecDepth 100000 in
theorem Ykr (inter:Bool)(c:Cel)(p:Nat→Option Addr)(n k:Nat→Nat)(w:World)(hc:Yc6 w c p n)(hT:Ye2 w)(hS:Ybz w):Calls Tryz.prog 39 #[.bool inter,.agg (Ycs c fun i=>.slice (p i) (n i) (k i)).toArray] w fun e w'=>e=.returned (.bool (Yb0 inter c))∧Below w.heap.size w w':=by
 have hba:=fun x (hx:Below w.heap.size w x)=>Ykv c p n k x (hc.below hx);have hki:=fun x=>Yg5 inter c.kind x;have hst:=fun x (hx:Below w.heap.size w x)=>Yg6 c (fun i=>.slice (p i) (n i) (k i)) x (hS.below hx);have hve:=fun x=>Yft c (fun i=>.slice (p i) (n i) (k i)) x;have hbl:=fun x (hx:Below w.heap.size w x)=>Yfs c p n k x (hc.below hx) (hT.below hx)
 have ZC:Hid (Yb0 inter c=((decide (0≤c.stuff)&&decide (c.stuff≤64))&&(if c.skip then inter&&Yfg c else (Yeo inter c.kind&&Yd7 c.kind c.step)&&(Yj9 c.kind c.mx c.my&&Ydo c)))):=Lib.hid rfl;obtain⟨A,hA,f0,f1,f2,f3,f4,f5,-,-⟩:=Ycl c fun i=>.slice (p i) (n i) (k i);obtain⟨R,w0,hR,hw0,hz0,hb0,HSZ,hbx⟩:=Yc9 w hA;simp only[hA] at hba hst hve hbl;rw[hR] at hba hst hbl;rw[hA];have HW:=Lib.hid hw0
 have HR:=Lib.hid hR;have HBX:=Lib.hid hbx;have HBA:=Lib.hid hba;have HST:=Lib.hid hst;have HBL:=Lib.hid hbl;clear hA hw0 hR hbx hba hst hbl hc hT hS;generalize Yb0 inter c=z at *;generalize Yfg c=zb at *;generalize Yd7 c.kind c.step=sb at *;generalize Yj9 c.kind c.mx c.my=vb at *;generalize Ydo c=bb at *;by_cases h0:c.stuff<0
 ·have t0:decide (c.stuff<0)=true:=decide_eq_true h0;have Z:=Lib.hid (show z=false by rw[ZC.out,decide_eq_false (by omega:¬ 0≤c.stuff)];rfl);clear h0 ZC
  go_enter Tryz.func39,Tryz.ntmps39
  go_wp2
  go_ret
  exact⟨Yac Z.out.symm,by rw[HW.out,HR.out];exact hb0⟩
 by_cases h1:64<c.stuff
 ·have t0:decide (c.stuff<0)=false:=decide_eq_false h0;have t1:decide (64<c.stuff)=true:=decide_eq_true h1;have Z:=Lib.hid (show z=false by rw[ZC.out,decide_eq_false (by omega:¬ c.stuff≤64),Bool.and_false];rfl);clear h0 h1 ZC
  go_enter Tryz.func39,Tryz.ntmps39
  go_wp2
  go_ret
  exact⟨Yac Z.out.symm,by rw[HW.out,HR.out];exact hb0⟩
 have t0:decide (c.stuff<0)=false:=decide_eq_false h0;have t1:decide (64<c.stuff)=false:=decide_eq_false h1;rw[decide_eq_true (by omega:0≤c.stuff),decide_eq_true (by omega:c.stuff≤64)] at ZC;clear h0 h1;cases hsk:c.skip with
 |true=>
  rw[hsk] at ZC f1;cases inter with
  |false=>
   have Z:=Lib.hid (show z=false by rw[ZC.out];rfl)
   go_enter Tryz.func39,Tryz.ntmps39
   go_wp2
   go_ret
   exact⟨Yac Z.out.symm,by rw[HW.out,HR.out];exact hb0⟩
  |true=>
   have Z:=Lib.hid (show z=zb by rw[ZC.out];rfl)
   go_enter Tryz.func39,Tryz.ntmps39
   go_wp2_with (with_reducible refine Yba (by kernel_rfl) 31 _ rfl w.heap.size rfl 31 A (0,0) _ (heap_alloc_new w _) Tryz.underlying31 rfl HSZ ?_)
   rw[HW.out,HR.out];refine(HBA.out _ hb0).mono ?_;rintro e w1 ⟨rfl,hb1⟩;have hb2:=hb0.trans (hb1.mono (by omega))
   go_wp2
   go_ret
   exact⟨Yac Z.out.symm,by rw[HR.out];exact hb2⟩
 |false=>
  rw[hsk] at ZC f1;have Z:=Lib.hid (show z=(Yeo inter c.kind&&sb&&(vb&&bb)) by rw[ZC.out];rfl);clear ZC;generalize Yeo inter c.kind=kb at *
  go_enter Tryz.func39,Tryz.ntmps39
  go_wp2_with fail
  rw[HW.out,HR.out];refine(hki _).mono ?_;rintro e w1 ⟨rfl,rfl⟩;obtain⟨g1,g2⟩:=HBX.out _ (Below.refl _ _);cases kb with
  |false=>
   go_wp2
   go_ret
   exact⟨Yac (by rw[Z.out];rfl),by rw[HR.out];exact hb0⟩
  |true=>
   go_wp2_with (with_reducible refine Yba (by kernel_rfl) 31 _ rfl R rfl 31 A (0,0) _ g1 Tryz.underlying31 rfl HSZ ?_)
   refine(HST.out _ hb0).mono ?_;rintro e w1 ⟨rfl,hb1⟩;have hb2:=hb0.trans (hb1.mono (by omega));have hz1:=hb1.size;have g1:=(HBX.out _ (hb1.mono (by omega))).1;cases sb with
   |false=>
    go_wp2
    go_ret
    exact⟨Yac (by rw[Z.out];rfl),by rw[HR.out];exact hb2⟩
   |true=>
    go_wp2_with (with_reducible refine Yba (by kernel_rfl) 31 _ rfl R rfl 31 A (0,0) _ g1 Tryz.underlying31 rfl HSZ ?_)
    refine(hve _).mono ?_;rintro e w2 ⟨rfl,hb3⟩;have hb4:=hb2.trans (hb3.mono (by omega));have hz2:=hb3.size;have g1:=(HBX.out _ ((hb1.trans (hb3.mono hz1)).mono (by omega))).1;cases vb with
    |false=>
     go_wp2
     go_ret
     exact⟨Yac (by rw[Z.out];rfl),by rw[HR.out];exact hb4⟩
    |true=>
     go_wp2_with (with_reducible refine Yba (by kernel_rfl) 31 _ rfl R rfl 31 A (0,0) _ g1 Tryz.underlying31 rfl HSZ ?_)
     refine(HBL.out _ hb4).mono ?_;rintro e w3 ⟨rfl,hb5⟩;have hb6:=hb4.trans (hb5.mono (by omega))
     go_wp2
     go_ret
     exact⟨Yac (by rw[Z.out];rfl),by rw[HR.out];exact hb6⟩
def Ysp (fn:FuncId)(X:Array Value)(F:Nat→Nat→Int)(w:World):Prop:=∀(b:Nat),b<6→∀x,Below w.heap.size w x→Calls Tryz.prog fn #[.agg X,.int .i64 (b:Int)] x (Ya6 (F b) x)
def Yht (F:Nat→Nat→Int)(c:Cel)(w:World)(e:Ending)(w':World):Prop:=e=.returned (.tuple #[.agg (arn 384 (Yr0 F c).1),.int .i64 (Yr0 F c).2])∧Below w.heap.size w w'
theorem Yf0 (w:World):(Instr.build 38 #[]).run Tryz.prog w=.ok (.agg (arn 384 fun _=>0)) w:=run_build w _ #[] _ (by kernel_rfl)
set_option maxRecDepth 100000 in
set_option maxHeartbeats 2000000 in
theorem Yj6 (fn:FuncId)(X:Array Value)(F:Nat→Nat→Int)(c:Cel)(p:Nat→Option Addr)(n k:Nat→Nat)(w:World)(hc:Yc6 w c p n)(hT:Ye2 w)(hS:Ybz w)(hen:∀args x,(callFunc fn args).run Tryz.prog x=.ok (.enter fn args) x)(hg:Ysp fn X F w):
  Calls Tryz.prog 27 #[.agg (Ycs c fun i=>.slice (p i) (n i) (k i)).toArray,.func (.func fn) #[.agg X] #[]] w (Yht F c w):=by
 have hri:=fun x (hx:Below w.heap.size w x)=>Ykr true c p n k x (hc.below hx) (hT.below hx) (hS.below hx);obtain⟨A,hA⟩:∃A,(Ycs c fun i=>.slice (p i) (n i) (k i)).toArray=A:=⟨_,rfl⟩;have HSA:(Tryz.prog.info? 31).map (·.size)=some A.size:=hA▸Yco c _;obtain⟨Y,hY⟩:∃Y,(arn 384 fun _=>0)=Y:=⟨_,rfl⟩;have hz0:∀w,(zeroValue 38).run Tryz.prog w=.ok (.agg Y) w:=by rw[←hY];exact Ycc
 have hbz:∀w,(Instr.build 38 #[]).run Tryz.prog w=.ok (.agg Y) w:=by rw[←hY];exact Yf0
 have HSY:(Tryz.prog.info? 38).map (·.size)=some Y.size:=hY▸Ya8 _;have HOY:Y.all (·.oneCell')=true:=hY▸Yau _ _;have HYZ:Y.size=384:=by rw[←hY,Yaj]
 obtain⟨B,wA,wB,hB,hwA,hwB,hzA,hzB,hC0,hC1,hbB⟩:=Yex w (.cells A 31 (0,0)) (.cells Y 38 (0,0));rw[hA] at hri ⊢;have RI:=Lib.hid (fun(x:World) (hx:Below (B+2) wB x)=>hri x (hB▸hbB.trans (hx.mono (by omega))));have TG:=Lib.hid (fun(b:Nat) (hb:b<6) (x:World) (hx:Below B w x)=>hg b hb x (hB▸hx));have HY:=Lib.hid hY;have HWA:=Lib.hid hwA;have HWB:=Lib.hid hwB;have HB:=Lib.hid hB;have HBW:=Lib.hid hbB
 have RG:=Lib.hid (show Yr0 F c=if Yb0 true c then (ptF F,0) else (fun _=>0,12) from rfl);clear hA hY hwA hwB hB hbB hri hg hc hT hS;generalize Yb0 true c=ok at RI RG
 go_enter Tryz.func27,Tryz.ntmps27
 go_wp2_with (rw[HWA.out,HB.out,HWB.out];with_reducible refine wpList_load_row rfl 31 _ rfl B rfl 31 A (0,0) _ hC0 Tryz.underlying31 rfl HSA ?_)
 refine(RI.out _ (Below.refl _ _)).mono ?_;rintro e x1 ⟨rfl,hb1⟩;rw[hzB] at hb1;have hz1:=hb1.size;have d0:=(hb1.block B (by omega)).trans hC0;have d1:=(hb1.block (B+1) (by omega)).trans hC1;have hb2:Below B w x1:=HBW.out.trans (hb1.mono (by omega));clear hC0 hC1 hb1;cases ok with
 |false=>
  have F1:=Lib.hid (show Yr0 F c=(fun _=>0,12) from RG.out.trans rfl)
  go_wp2_with (with_reducible refine Yad rfl 38 _ _ rfl (B+1) Y Y rfl rfl 38 d1 HSY rfl HOY ?_;intro w5 hh5 hg5)
  refine bodyPost_ret (Yam rfl _ _ (B+1) 38 _ (0,0) _ rfl hh5 Tryz.underlying38 rfl HSY) rfl ?_;exact⟨by rw[F1.out,HY.out];rfl,by rw[HB.out];exact hb2.grown hg5 (by omega) (fun k hk=>by injection hk with hk;omega)⟩
 |true=>
  have F1:=Lib.hid (show Yr0 F c=(ptF F,0) from RG.out.trans rfl);obtain⟨D,hD⟩:∃D,x1.heap.size=D:=⟨_,rfl⟩;obtain⟨x2,hx2⟩:∃x2,x1.alloc (.cells Y 38 (0,0))=x2:=⟨_,rfl⟩;have k1:x2.heap[B+1]? =some (.cells Y 38 (0,0)):=by rw[←hx2];exact Yao d1
  have k2:x2.heap[D]? =some (Yca 38 384 (Yfn F (fun _ _=>0) 0)):=by
   rw[←hx2,←hD,Yfz,Yl7];refine(heap_alloc_new x1 _).trans ?_;rw[←HY.out]
   rfl
  have kb:Below B w x2:=by rw[←hx2];exact hb2.alloc (by omega) _
  have kz:D+1≤x2.heap.size:=by rw[←hx2];simp;omega
  have hDB:B+2≤D:=by omega
  have HX2:=Lib.hid hx2;have HD:=Lib.hid hD;clear hx2 hD d0 d1 hb2
  go_wp2
  rw[HX2.out,HD.out]
  go_loopw [12] (fun z wr=>∃i:Nat,i≤6∧z=.int .i64 i∧wr.heap[B+1]? =some (.cells Y 38 (0,0))∧wr.heap[D]? =some (Yca 38 384 (Yfn F (fun _ _=>0) i))∧Below B w wr∧D+1≤wr.heap.size) (fun z _=>6-(RowKit.intOf z).toNat)
  case atStart=>exact⟨0,by omega,rfl,k1,k2,kb,kz⟩
  case round=>
   clear k1 k2 kb kz hz1 hzB hzA;obtain⟨i,hi6,rfl,k1,k2,kb,kz⟩:=hrel;by_cases hlt:i<6
   ·have t0:decide ((i:Int)<6)=true:=by simp;omega
    have ct:=TG.out i hlt wr kb;obtain⟨V,hV⟩:∃V,Yay (F i)=V:=⟨_,rfl⟩;unfold Ya6 at ct;rw[hV] at ct;have HSV:(Tryz.prog.info? 36).map (·.size)=some V.size:=hV▸Yan _;have HV:=Lib.hid hV;clear hV
    go_wp2_with fail
    refine ct.mono ?_;rintro e x3 ⟨rfl,hb3⟩;have j1:=(hb3.block (B+1) (by omega)).trans k1;have j2:=(hb3.block D (by omega)).trans k2;have jb:Below B w x3:=kb.trans (hb3.mono (by omega));have jz:=Nat.le_trans kz hb3.size;clear k1 k2 kb kz hb3 ct
    go_wp2_with (refine Ydj rfl 36 _ _ rfl D i _ (by omega) 38 F (fun _ _=>0) (F i) V HV.out rfl rfl j2 hlt (fun _ _=>rfl) HSV ?_;intro w5 hh5 hg5)
    have m1:=(hg5.block (B+1) (by omega) (by intro e;injection e with e;omega)).trans j1;have mb:Below B w w5:=jb.grown hg5 (by omega) (fun k hk=>by injection hk with hk;omega);have mz:=Nat.le_trans jz hg5.size
    go_roundw
    case rel=>exact⟨i+1,by omega,by go_num,m1,hh5.out,mb,mz⟩
    case measure=>simp[RowKit.intOf];omega
   ·obtain rfl:i=6:=by omega
    have t0:decide ((6:Int)<6)=false:=by simp
    obtain⟨V,hV⟩:∃V,arn 384 (ptF F)=V:=⟨_,rfl⟩;have k3:wr.heap[D]? =some (.cells V 38 (0,0)):=by rw[←hV,←Yig F (fun _ _=>0)];exact k2
    have HSV:(Tryz.prog.info? 38).map (·.size)=some V.size:=hV▸Ya8 _;have HOV:V.all (·.oneCell')=true:=hV▸Yau _ _;have HYV:Y.size=V.size:=by rw[HYZ,←hV,Yaj]
    have HV:=Lib.hid hV;clear hV k2
    go_wp2_with (first|(with_reducible refine wpList_load_row rfl 38 _ rfl D rfl 38 V (0,0) _ k3 Tryz.underlying38 rfl HSV ?_)|(with_reducible refine Yad rfl 38 _ _ rfl (B+1) V Y rfl rfl 38 k1 HSV HYV HOV ?_;intro w5 hh5 hg5))
    refine bodyPost_ret (Yam rfl _ _ (B+1) 38 _ (0,0) _ rfl hh5 Tryz.underlying38 rfl HSV) rfl ?_;exact⟨by rw[F1.out,←HV.out];rfl,by rw[HB.out];exact kb.grown hg5 (by omega) (fun k hk=>by injection hk with hk;omega)⟩
theorem Yr8:∀args x,(callFunc 28 args).run Tryz.prog x=.ok (.enter 28 args) x:=Ylt Tryz.func28 (by kernel_rfl) rfl
set_option maxRecDepth 100000 in
set_option maxHeartbeats 2000000 in
theorem Yg2 (a0 a1 a2 a3 a4 a5 a6 a7 a8 a9 a10 a11 a12 a13 a14 a15 a16 a17:Value)(q:Int)(V:Array Value)(er:Int)(w:World)(HSV:(Tryz.prog.info? 38).map (·.size)=some V.size)(HOV:V.all (·.oneCell')=true)
  (th:∀x,Below w.heap.size w x→Calls Tryz.prog 27 #[.agg #[a0,a1,a2,a3,a4,a5,a6,a7,a8,a9,a10,a11,a12,a13,a14,a15,a16,a17],.func (.func 28) #[.agg #[a0,a1,a2,a3,a4,a5,a6,a7,a8,a9,a10,a11,a12,a13,a14,a15,a16,a17,.int .i64 q]] #[]] x fun e y=>e=.returned (.tuple #[.agg V,.int .i64 er])∧Below x.heap.size x y):
  Calls Tryz.prog 13 #[.agg #[a0,a1,a2,a3,a4,a5,a6,a7,a8,a9,a10,a11,a12,a13,a14,a15,a16,a17],.int .i64 q] w fun e w'=>e=.returned (.tuple #[.agg V,.int .i64 er])∧Below w.heap.size w w':=by
 have HSA:(Tryz.prog.info? 31).map (·.size)=some #[a0,a1,a2,a3,a4,a5,a6,a7,a8,a9,a10,a11,a12,a13,a14,a15,a16,a17].size:=by kernel_rfl
 have hmf:∀(fn:Fn) (first cap:Array Value) (w:World),(Instr.makeFunc fn first cap).run Tryz.prog w=.ok (.func fn first cap) w:=fun _ _ _ _=>rfl;obtain⟨Y,hY⟩:∃Y,(arn 384 fun _=>0)=Y:=⟨_,rfl⟩;have hz0:∀w,(zeroValue 38).run Tryz.prog w=.ok (.agg Y) w:=by rw[←hY];exact Ycc
 have HYV:Y.size=V.size:=by
  have h1:=Ypq;rw[HSV] at h1;rw[←hY,Yaj];injection h1 with h1;exact h1.symm
 obtain⟨B,wA,wB,hB,hwA,hwB,hzA,hzB,hC0,hC1,hbB⟩:=Yex w (.cells #[a0,a1,a2,a3,a4,a5,a6,a7,a8,a9,a10,a11,a12,a13,a14,a15,a16,a17] 31 (0,0)) (.cells Y 38 (0,0));have t1:=th wB (hB▸hbB);rw[hB];have HWA:=Lib.hid hwA;have HWB:=Lib.hid hwB;have HB:=Lib.hid hB;clear hY hwA hwB hB th
 go_enter Tryz.func13,Tryz.ntmps13
 go_wp2_with (first|(rw[HWA.out,HB.out,HWB.out];with_reducible refine wpList_load_row rfl 31 _ rfl B rfl 31 #[a0,a1,a2,a3,a4,a5,a6,a7,a8,a9,a10,a11,a12,a13,a14,a15,a16,a17] (0,0) _ hC0 Tryz.underlying31 rfl HSA ?_)|(with_reducible refine wpList_load_row rfl 31 _ rfl B rfl 31 #[a0,a1,a2,a3,a4,a5,a6,a7,a8,a9,a10,a11,a12,a13,a14,a15,a16,a17] (0,0) _ hC0 Tryz.underlying31 rfl HSA ?_))
 refine t1.mono ?_;rintro e x1 ⟨rfl,hb1⟩;rw[hzB] at hb1;have hz1:=hb1.size;have d1:=(hb1.block (B+1) (by omega)).trans hC1;have hb2:Below B w x1:=hbB.trans (hb1.mono (by omega))
 go_wp2_with (with_reducible refine Yad rfl 38 _ _ rfl (B+1) V Y rfl rfl 38 d1 HSV HYV HOV ?_;intro w5 hh5 hg5)
 refine bodyPost_ret (Yam rfl _ _ (B+1) 38 _ (0,0) _ rfl hh5 Tryz.underlying38 rfl HSV) rfl ?_;exact⟨rfl,hb2.grown hg5 (by omega) (fun k hk=>by injection hk with hk;omega)⟩
theorem Ypc (c:Cel)(p:Nat→Option Addr)(n k:Nat→Nat)(q:Int)(w:World)(hc:Yc6 w c p n)(hT:Ye2 w)(hS:Ybz w)(hP:Yb6 w)(hD:Ycw w):
  Calls Tryz.prog 13 #[.agg (Ycs c fun i=>.slice (p i) (n i) (k i)).toArray,.int .i64 q] w (Yht (Ycx c q) c w):=by
 refine Yg2 _ _ _ _ _ _ _ _ _ _ _ _ _ _ _ _ _ _ q (arn 384 (Yr0 (Ycx c q) c).1) (Yr0 (Ycx c q) c).2 w (Ya8 _) (Yau _ _) fun x hx=>?_;exact Yj6 28 (Ygw c (fun i=>.slice (p i) (n i) (k i)) q).toArray (Ycx c q) c p n k x (hc.below hx) (hT.below hx) (hS.below hx) Yr8 fun b hb y hy=>by
  have h2:Below w.heap.size w y:=hx.trans (hy.mono hx.size);exact Yio c p n k q b y hb (hc.below h2) (hP.below h2) (hD.below h2)
end Go.Proofs.YtdnjefldijjgdaaGreatDoor