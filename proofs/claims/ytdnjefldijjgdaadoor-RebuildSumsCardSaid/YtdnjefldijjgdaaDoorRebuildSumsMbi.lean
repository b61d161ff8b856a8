/- No condition. -/
import Derived.Test.YtdnjefldijjgdaaDoorRebuildSumsMa
import Derived.Test.YtdnjefldijjgdaaDoorRebuildSumsMw
import Derived.Test.YtdnjefldijjgdaaDoorRebuildSumsMbb
import Derived.Test.YtdnjefldijjgdaaDoorRebuildSumsMbh
namespace Go.Proofs.YtdnjefldijjgdaaDoor
open Go.RowKit Go.Lib
theorem Yg6 {w x:World}{b N:Nat}(h:w.grownBy x (some b))(hN:N≤b)(hz:N≤w.heap.size):Below N w x:=
 ⟨h.os,h.tape,h.output,h.size,fun k hk=>h.block k (by omega) (fun e=>by injection e with e;omega)⟩
set_option maxRecDepth 100000 in
theorem Yd9 (c:Cel)(p:Nat→Option Addr)(n k:Nat→Nat)(w:World)(hc:Yc8 w c p n)(hT:Ydr w):Calls Tryd.prog 40 #[.agg (Ydg c fun i=>.slice (p i) (n i) (k i)).toArray] w fun e w'=>e=.returned (.bool (Ydu c))∧Below w.heap.size w w':=by
 have hput:=fun x (hx:Below w.heap.size w x)=>Yfa c p n k (x.heap.size+1) x.heap.size [] (x.alloc Yhc) (Yc5.fresh rfl (Nat.lt_succ_self _)) (by simp) (by simp) (fun y hy=>by
  have h1:=hx.trans ((((Below.refl _ x).alloc (Nat.le_refl _) Yhc).trans (Yg6 hy (Nat.le_refl _) (by simp))).mono hx.size);exact⟨hT.below h1,hc.below h1⟩)
 obtain⟨A,hA,-,-,-,-,-,-,-,-⟩:=Yb4 c fun i=>.slice (p i) (n i) (k i);obtain⟨R,w0,hR,hw0,hz0,hb0,HSZ,hbx⟩:=Ycr w hA;rw[hA];obtain⟨ev,hev⟩:∃ev:Int,(if Ydu c=true then 0 else 7)=ev:=⟨_,rfl⟩;have HEV:Hid ((ev==0)=Ydu c):=Lib.hid (by rw[←hev];cases Ydu c <;> rfl)
 have HPUT:Hid (∀x,(Below R w x∧x.heap[R]? =some (.cells A 37 (0,0)))→Calls Tryd.prog 56 #[.pointer (some ⟨x.heap.size,0,none⟩),.agg A] (x.alloc Yhc) fun e y=>e=.returned (.int .i64 ev)∧Below R w y∧y.heap[R]? =some (.cells A 37 (0,0))):=Lib.hid (by
  intro x hx;have h1:=hput x (by rw[hR];exact hx.1);rw[hA] at h1;refine h1.mono ?_;rintro e y ⟨i,_,_,hg,h2⟩;have h3:Below x.heap.size x y:=((Below.refl _ x).alloc (Nat.le_refl _) Yhc).trans (Yg6 hg (Nat.le_refl _) (by simp));refine⟨?_,hx.1.trans (h3.mono (by have:=hx.1.size;omega)),(h3.block R (Array.getElem?_eq_some_iff.1 hx.2).1).trans hx.2⟩;rcases h2 with ⟨_,h4,rfl⟩|⟨h4,rfl⟩
  ·rw[←hev,h4];rfl
  ·rw[←hev,h4];rfl)
 have hbx0:=(hbx w0 (Below.refl _ _)).1;have HW:=Lib.hid hw0;have HR:=Lib.hid hR;clear hA hw0 hR hbx hput hc hT hev;generalize Ydu c=bb at *
 go_enter Tryd.func40,Tryd.ntmps40
 go_wp2
 rw[HW.out,HR.out];refine wp_region_held_drew (S:=fun x=>Below R w x∧x.heap[R]? =some (.cells A 37 (0,0))) (by kernel_rfl) ⟨hb0.drew,hbx0⟩ (fun hH=>?_)
 refine Yct 1 (some 4) (v:=.agg A) rfl rfl (by kernel_rfl) (by kernel_rfl) (by kernel_rfl) (fun _ _ _ h=>h) hH (Or.inl ⟨by kernel_rfl,fun x hx=>Ya4 (ty:=37) (x:=.tmp 1) (ad:=⟨R,0,none⟩) (by kernel_rfl) (by kernel_rfl) (run_loadVar_row x (R) _ _ A (0,0) _ (hx.2) Tryd.underlying37 rfl HSZ)⟩) ?_
 try simp only[Yaa]
 refine wpAnyH_ready (rs:=[0]) (by kernel_rfl) (by simp) ?_;refine AllReadyH.cons rfl (fun K hK=>?_) AllReadyH.nil
 go_simp
 go_wp2_with fail
 obtain⟨x0,hx0⟩:∃x0,w0.drew=x0:=⟨_,rfl⟩;rw[hx0] at hH ⊢;have hxz:R<x0.heap.size:=by rw[←hx0];show R<w0.heap.size;omega
 have hX:=hH;refine(Yn3 _).mono ?_;rintro e w2 ⟨rfl,rfl⟩;refine hK.out _ _ (⟨hH.1.alloc (Nat.le_of_lt hxz) _,Yaq hH.2⟩) (fun hH2=>?_);clear hK K hH;have hH:=hH2;clear hH2
 try simp only[Yaa]
 refine wpAnyH_ready (rs:=[2]) (by kernel_rfl) (by simp) ?_;refine AllReadyH.cons rfl (fun K hK=>?_) AllReadyH.nil
 go_simp
 go_wp2_with fail
 refine(HPUT.out x0 hX).mono ?_;rintro e w3 ⟨rfl,hb3,hk3⟩;refine hK.out _ _ (⟨hb3,hk3⟩) (fun hH2=>?_);clear hK K hH;have hH:=hH2;clear hH2
 try simp only[Yaa]
 refine Yll 3 (some 6) hH ?_
 try simp only[Yaa]
 refine Yll 4 (some 2) hH ?_
 try simp only[Yaa]
 refine wpAnyH_done (by kernel_rfl) ?_ _
 go_wp2
 go_ret
 exact⟨Yaf HEV.out,by rw[HR.out];exact hH.1⟩
set_option maxRecDepth 100000 in
theorem Yia (inter:Bool)(c:Cel)(p:Nat→Option Addr)(n k:Nat→Nat)(w:World)(hc:Yc8 w c p n)(hT:Ydr w)(hS:Ya9 w):Calls Tryd.prog 27 #[.bool inter,.agg (Ydg c fun i=>.slice (p i) (n i) (k i)).toArray] w fun e w'=>e=.returned (.bool (Ycq inter c))∧Below w.heap.size w w':=by
 have hba:=fun x (hx:Below w.heap.size w x)=>Yid c p n k x (hc.below hx);have hki:=fun x=>Yfb inter c.kind x;have hst:=fun x (hx:Below w.heap.size w x)=>Yfc c (fun i=>.slice (p i) (n i) (k i)) x (hS.below hx);have hve:=fun x=>Yea c (fun i=>.slice (p i) (n i) (k i)) x;have hbl:=fun x (hx:Below w.heap.size w x)=>Yd9 c p n k x (hc.below hx) (hT.below hx)
 have ZC:Hid (Ycq inter c=((decide (0≤c.stuff)&&decide (c.stuff≤64))&&(if c.skip then inter&&Ykm c else (Yie inter c.kind&&Ykf c.kind c.step)&&(Ykl c.kind c.mx c.my&&Ydu c)))):=Lib.hid rfl;obtain⟨A,hA,f0,f1,f2,f3,f4,f5,-,-⟩:=Yb4 c fun i=>.slice (p i) (n i) (k i);obtain⟨R,w0,hR,hw0,hz0,hb0,HSZ,hbx⟩:=Ycr w hA;simp only[hA] at hba hst hve hbl;rw[hR] at hba hst hbl;rw[hA];have HW:=Lib.hid hw0
 have HR:=Lib.hid hR;have HBX:=Lib.hid hbx;have HBA:=Lib.hid hba;have HST:=Lib.hid hst;have HBL:=Lib.hid hbl;clear hA hw0 hR hbx hba hst hbl hc hT hS;generalize Ycq inter c=z at *;generalize Ykm c=zb at *;generalize Ykf c.kind c.step=sb at *;generalize Ykl c.kind c.mx c.my=vb at *;generalize Ydu c=bb at *;by_cases h0:c.stuff<0
 ·have t0:decide (c.stuff<0)=true:=decide_eq_true h0;have Z:=Lib.hid (show z=false by rw[ZC.out,decide_eq_false (by omega:¬ 0≤c.stuff)];rfl);clear h0 ZC
  go_enter Tryd.func27,Tryd.ntmps27
  go_wp2
  go_ret
  exact⟨Yaf Z.out.symm,by rw[HW.out,HR.out];exact hb0⟩
 by_cases h1:64<c.stuff
 ·have t0:decide (c.stuff<0)=false:=decide_eq_false h0;have t1:decide (64<c.stuff)=true:=decide_eq_true h1;have Z:=Lib.hid (show z=false by rw[ZC.out,decide_eq_false (by omega:¬ c.stuff≤64),Bool.and_false];rfl);clear h0 h1 ZC
  go_enter Tryd.func27,Tryd.ntmps27
  go_wp2
  go_ret
  exact⟨Yaf Z.out.symm,by rw[HW.out,HR.out];exact hb0⟩
 have t0:decide (c.stuff<0)=false:=decide_eq_false h0;have t1:decide (64<c.stuff)=false:=decide_eq_false h1;rw[decide_eq_true (by omega:0≤c.stuff),decide_eq_true (by omega:c.stuff≤64)] at ZC;clear h0 h1;cases hsk:c.skip with
 |true=>
  rw[hsk] at ZC f1;cases inter with
  |false=>
   have Z:=Lib.hid (show z=false by rw[ZC.out];rfl)
   go_enter Tryd.func27,Tryd.ntmps27
   go_wp2
   go_ret
   exact⟨Yaf Z.out.symm,by rw[HW.out,HR.out];exact hb0⟩
  |true=>
   have Z:=Lib.hid (show z=zb by rw[ZC.out];rfl)
   go_enter Tryd.func27,Tryd.ntmps27
   go_wp2_with (with_reducible refine Yay (by kernel_rfl) 37 _ rfl w.heap.size rfl 37 A (0,0) _ (heap_alloc_new w _) Tryd.underlying37 rfl HSZ ?_)
   rw[HW.out,HR.out];refine(HBA.out _ hb0).mono ?_;rintro e w1 ⟨rfl,hb1⟩;have hb2:=hb0.trans (hb1.mono (by omega))
   go_wp2
   go_ret
   exact⟨Yaf Z.out.symm,by rw[HR.out];exact hb2⟩
 |false=>
  rw[hsk] at ZC f1;have Z:=Lib.hid (show z=(Yie inter c.kind&&sb&&(vb&&bb)) by rw[ZC.out];rfl);clear ZC;generalize Yie inter c.kind=kb at *
  go_enter Tryd.func27,Tryd.ntmps27
  go_wp2_with fail
  rw[HW.out,HR.out];refine(hki _).mono ?_;rintro e w1 ⟨rfl,rfl⟩;obtain⟨g1,g2⟩:=HBX.out _ (Below.refl _ _);cases kb with
  |false=>
   go_wp2
   go_ret
   exact⟨Yaf (by rw[Z.out];rfl),by rw[HR.out];exact hb0⟩
  |true=>
   go_wp2_with (with_reducible refine Yay (by kernel_rfl) 37 _ rfl R rfl 37 A (0,0) _ g1 Tryd.underlying37 rfl HSZ ?_)
   refine(HST.out _ hb0).mono ?_;rintro e w1 ⟨rfl,hb1⟩;have hb2:=hb0.trans (hb1.mono (by omega));have hz1:=hb1.size;have g1:=(HBX.out _ (hb1.mono (by omega))).1;cases sb with
   |false=>
    go_wp2
    go_ret
    exact⟨Yaf (by rw[Z.out];rfl),by rw[HR.out];exact hb2⟩
   |true=>
    go_wp2_with (with_reducible refine Yay (by kernel_rfl) 37 _ rfl R rfl 37 A (0,0) _ g1 Tryd.underlying37 rfl HSZ ?_)
    refine(hve _).mono ?_;rintro e w2 ⟨rfl,hb3⟩;have hb4:=hb2.trans (hb3.mono (by omega));have hz2:=hb3.size;have g1:=(HBX.out _ ((hb1.trans (hb3.mono hz1)).mono (by omega))).1;cases vb with
    |false=>
     go_wp2
     go_ret
     exact⟨Yaf (by rw[Z.out];rfl),by rw[HR.out];exact hb4⟩
    |true=>
     go_wp2_with (with_reducible refine Yay (by kernel_rfl) 37 _ rfl R rfl 37 A (0,0) _ g1 Tryd.underlying37 rfl HSZ ?_)
     refine(HBL.out _ hb4).mono ?_;rintro e w3 ⟨rfl,hb5⟩;have hb6:=hb4.trans (hb5.mono (by omega))
     go_wp2
     go_ret
     exact⟨Yaf (by rw[Z.out];rfl),by rw[HR.out];exact hb6⟩
def Yo2 (fn:FuncId)(X:Array Value)(F:Nat→Nat→Int)(w:World):Prop:=∀(b:Nat),b<6→∀x,Below w.heap.size w x→Calls Tryd.prog fn #[.agg X,.int .i64 (b:Int)] x (Yaz (F b) x)
def Yf3 (F:Nat→Nat→Int)(c:Cel)(w:World)(e:Ending)(w':World):Prop:=e=.returned (.tuple #[.agg (arn 384 (Yoh F c).1),.int .i64 (Yoh F c).2])∧Below w.heap.size w w'
theorem Ygj (w:World):(Instr.build 24 #[]).run Tryd.prog w=.ok (.agg (arn 384 fun _=>0)) w:=run_build w _ #[] _ (by kernel_rfl)
set_option maxRecDepth 100000 in
set_option maxHeartbeats 2000000 in
theorem Yhs (fn:FuncId)(X:Array Value)(F:Nat→Nat→Int)(c:Cel)(p:Nat→Option Addr)(n k:Nat→Nat)(w:World)(hc:Yc8 w c p n)(hT:Ydr w)(hS:Ya9 w)(hen:∀args x,(callFunc fn args).run Tryd.prog x=.ok (.enter fn args) x)(hg:Yo2 fn X F w):
  Calls Tryd.prog 20 #[.agg (Ydg c fun i=>.slice (p i) (n i) (k i)).toArray,.func (.func fn) #[.agg X] #[]] w (Yf3 F c w):=by
 have hri:=fun x (hx:Below w.heap.size w x)=>Yia true c p n k x (hc.below hx) (hT.below hx) (hS.below hx);obtain⟨A,hA⟩:∃A,(Ydg c fun i=>.slice (p i) (n i) (k i)).toArray=A:=⟨_,rfl⟩;have HSA:(Tryd.prog.info? 37).map (·.size)=some A.size:=hA▸Yeo c _;obtain⟨Y,hY⟩:∃Y,(arn 384 fun _=>0)=Y:=⟨_,rfl⟩;have hz0:∀w,(zeroValue 24).run Tryd.prog w=.ok (.agg Y) w:=by rw[←hY];exact Ycm
 have hbz:∀w,(Instr.build 24 #[]).run Tryd.prog w=.ok (.agg Y) w:=by rw[←hY];exact Ygj
 have HSY:(Tryd.prog.info? 24).map (·.size)=some Y.size:=hY▸Ybc _;have HOY:Y.all (·.oneCell')=true:=hY▸Ya5 _ _;have HYZ:Y.size=384:=by rw[←hY,Yah]
 obtain⟨B,wA,wB,hB,hwA,hwB,hzA,hzB,hC0,hC1,hbB⟩:=Yhb w (.cells A 37 (0,0)) (.cells Y 24 (0,0));rw[hA] at hri ⊢;have RI:=Lib.hid (fun(x:World) (hx:Below (B+2) wB x)=>hri x (hB▸hbB.trans (hx.mono (by omega))));have TG:=Lib.hid (fun(b:Nat) (hb:b<6) (x:World) (hx:Below B w x)=>hg b hb x (hB▸hx));have HY:=Lib.hid hY;have HWA:=Lib.hid hwA;have HWB:=Lib.hid hwB;have HB:=Lib.hid hB;have HBW:=Lib.hid hbB
 have RG:=Lib.hid (show Yoh F c=if Ycq true c then (ptF F,0) else (fun _=>0,12) from rfl);clear hA hY hwA hwB hB hbB hri hg hc hT hS;generalize Ycq true c=ok at RI RG
 go_enter Tryd.func20,Tryd.ntmps20
 go_wp2_with (rw[HWA.out,HB.out,HWB.out];with_reducible refine wpList_load_row rfl 37 _ rfl B rfl 37 A (0,0) _ hC0 Tryd.underlying37 rfl HSA ?_)
 refine(RI.out _ (Below.refl _ _)).mono ?_;rintro e x1 ⟨rfl,hb1⟩;rw[hzB] at hb1;have hz1:=hb1.size;have d0:=(hb1.block B (by omega)).trans hC0;have d1:=(hb1.block (B+1) (by omega)).trans hC1;have hb2:Below B w x1:=HBW.out.trans (hb1.mono (by omega));clear hC0 hC1 hb1;cases ok with
 |false=>
  have F1:=Lib.hid (show Yoh F c=(fun _=>0,12) from RG.out.trans rfl)
  go_wp2_with (with_reducible refine Yac rfl 24 _ _ rfl (B+1) Y Y rfl rfl 24 d1 HSY rfl HOY ?_;intro w5 hh5 hg5)
  refine bodyPost_ret (Yaj rfl _ _ (B+1) 24 _ (0,0) _ rfl hh5 Tryd.underlying24 rfl HSY) rfl ?_;exact⟨by rw[F1.out,HY.out];rfl,by rw[HB.out];exact hb2.grown hg5 (by omega) (fun k hk=>by injection hk with hk;omega)⟩
 |true=>
  have F1:=Lib.hid (show Yoh F c=(ptF F,0) from RG.out.trans rfl);obtain⟨D,hD⟩:∃D,x1.heap.size=D:=⟨_,rfl⟩;obtain⟨x2,hx2⟩:∃x2,x1.alloc (.cells Y 24 (0,0))=x2:=⟨_,rfl⟩;have k1:x2.heap[B+1]? =some (.cells Y 24 (0,0)):=by rw[←hx2];exact Yaq d1
  have k2:x2.heap[D]? =some (Yb6 24 384 (Yly F (fun _ _=>0) 0)):=by
   rw[←hx2,←hD,Yn2,Yoe];refine(heap_alloc_new x1 _).trans ?_;rw[←HY.out]
   rfl
  have kb:Below B w x2:=by rw[←hx2];exact hb2.alloc (by omega) _
  have kz:D+1≤x2.heap.size:=by rw[←hx2];simp;omega
  have hDB:B+2≤D:=by omega
  have HX2:=Lib.hid hx2;have HD:=Lib.hid hD;clear hx2 hD d0 d1 hb2
  go_wp2
  rw[HX2.out,HD.out]
  go_loopw [12] (fun z wr=>∃i:Nat,i≤6∧z=.int .i64 i∧wr.heap[B+1]? =some (.cells Y 24 (0,0))∧wr.heap[D]? =some (Yb6 24 384 (Yly F (fun _ _=>0) i))∧Below B w wr∧D+1≤wr.heap.size) (fun z _=>6-(RowKit.intOf z).toNat)
  case atStart=>exact⟨0,by omega,rfl,k1,k2,kb,kz⟩
  case round=>
   clear k1 k2 kb kz hz1 hzB hzA;obtain⟨i,hi6,rfl,k1,k2,kb,kz⟩:=hrel;by_cases hlt:i<6
   ·have t0:decide ((i:Int)<6)=true:=by simp;omega
    have ct:=TG.out i hlt wr kb;obtain⟨V,hV⟩:∃V,Yav (F i)=V:=⟨_,rfl⟩;unfold Yaz at ct;rw[hV] at ct;have HSV:(Tryd.prog.info? 22).map (·.size)=some V.size:=hV▸Yam _;have HV:=Lib.hid hV;clear hV
    go_wp2_with fail
    refine ct.mono ?_;rintro e x3 ⟨rfl,hb3⟩;have j1:=(hb3.block (B+1) (by omega)).trans k1;have j2:=(hb3.block D (by omega)).trans k2;have jb:Below B w x3:=kb.trans (hb3.mono (by omega));have jz:=Nat.le_trans kz hb3.size;clear k1 k2 kb kz hb3 ct
    go_wp2_with (refine Yhx rfl 22 _ _ rfl D i _ (by omega) 24 F (fun _ _=>0) (F i) V HV.out rfl rfl j2 hlt (fun _ _=>rfl) HSV ?_;intro w5 hh5 hg5)
    have m1:=(hg5.block (B+1) (by omega) (by intro e;injection e with e;omega)).trans j1;have mb:Below B w w5:=jb.grown hg5 (by omega) (fun k hk=>by injection hk with hk;omega);have mz:=Nat.le_trans jz hg5.size
    go_roundw
    case rel=>exact⟨i+1,by omega,by go_num,m1,hh5.out,mb,mz⟩
    case measure=>simp[RowKit.intOf];omega
   ·obtain rfl:i=6:=by omega
    have t0:decide ((6:Int)<6)=false:=by simp
    obtain⟨V,hV⟩:∃V,arn 384 (ptF F)=V:=⟨_,rfl⟩;have k3:wr.heap[D]? =some (.cells V 24 (0,0)):=by rw[←hV,←Ypu F (fun _ _=>0)];exact k2
    have HSV:(Tryd.prog.info? 24).map (·.size)=some V.size:=hV▸Ybc _;have HOV:V.all (·.oneCell')=true:=hV▸Ya5 _ _;have HYV:Y.size=V.size:=by rw[HYZ,←hV,Yah]
    have HV:=Lib.hid hV;clear hV k2
    go_wp2_with (first|(with_reducible refine wpList_load_row rfl 24 _ rfl D rfl 24 V (0,0) _ k3 Tryd.underlying24 rfl HSV ?_)|(with_reducible refine Yac rfl 24 _ _ rfl (B+1) V Y rfl rfl 24 k1 HSV HYV HOV ?_;intro w5 hh5 hg5))
    refine bodyPost_ret (Yaj rfl _ _ (B+1) 24 _ (0,0) _ rfl hh5 Tryd.underlying24 rfl HSV) rfl ?_;exact⟨by rw[F1.out,←HV.out];rfl,by rw[HB.out];exact kb.grown hg5 (by omega) (fun k hk=>by injection hk with hk;omega)⟩
theorem Yoo:∀args x,(callFunc 21 args).run Tryd.prog x=.ok (.enter 21 args) x:=Yi0 Tryd.func21 (by kernel_rfl) rfl
set_option maxRecDepth 100000 in
set_option maxHeartbeats 2000000 in
theorem Ye9 (a0 a1 a2 a3 a4 a5 a6 a7 a8 a9 a10 a11 a12 a13 a14 a15 a16 a17:Value)(q:Int)(V:Array Value)(er:Int)(w:World)(HSV:(Tryd.prog.info? 24).map (·.size)=some V.size)(HOV:V.all (·.oneCell')=true)
  (th:∀x,Below w.heap.size w x→Calls Tryd.prog 20 #[.agg #[a0,a1,a2,a3,a4,a5,a6,a7,a8,a9,a10,a11,a12,a13,a14,a15,a16,a17],.func (.func 21) #[.agg #[a0,a1,a2,a3,a4,a5,a6,a7,a8,a9,a10,a11,a12,a13,a14,a15,a16,a17,.int .i64 q]] #[]] x fun e y=>e=.returned (.tuple #[.agg V,.int .i64 er])∧Below x.heap.size x y):
  Calls Tryd.prog 13 #[.agg #[a0,a1,a2,a3,a4,a5,a6,a7,a8,a9,a10,a11,a12,a13,a14,a15,a16,a17],.int .i64 q] w fun e w'=>e=.returned (.tuple #[.agg V,.int .i64 er])∧Below w.heap.size w w':=by
 have HSA:(Tryd.prog.info? 37).map (·.size)=some #[a0,a1,a2,a3,a4,a5,a6,a7,a8,a9,a10,a11,a12,a13,a14,a15,a16,a17].size:=by kernel_rfl
 have hmf:∀(fn:Fn) (first cap:Array Value) (w:World),(Instr.makeFunc fn first cap).run Tryd.prog w=.ok (.func fn first cap) w:=fun _ _ _ _=>rfl;obtain⟨Y,hY⟩:∃Y,(arn 384 fun _=>0)=Y:=⟨_,rfl⟩;have hz0:∀w,(zeroValue 24).run Tryd.prog w=.ok (.agg Y) w:=by rw[←hY];exact Ycm
 have HYV:Y.size=V.size:=by
  have h1:=Ymb;rw[HSV] at h1;rw[←hY,Yah];injection h1 with h1;exact h1.symm
 obtain⟨B,wA,wB,hB,hwA,hwB,hzA,hzB,hC0,hC1,hbB⟩:=Yhb w (.cells #[a0,a1,a2,a3,a4,a5,a6,a7,a8,a9,a10,a11,a12,a13,a14,a15,a16,a17] 37 (0,0)) (.cells Y 24 (0,0));have t1:=th wB (hB▸hbB);rw[hB];have HWA:=Lib.hid hwA;have HWB:=Lib.hid hwB;have HB:=Lib.hid hB;clear hY hwA hwB hB th
 go_enter Tryd.func13,Tryd.ntmps13
 go_wp2_with (first|(rw[HWA.out,HB.out,HWB.out];with_reducible refine wpList_load_row rfl 37 _ rfl B rfl 37 #[a0,a1,a2,a3,a4,a5,a6,a7,a8,a9,a10,a11,a12,a13,a14,a15,a16,a17] (0,0) _ hC0 Tryd.underlying37 rfl HSA ?_)|(with_reducible refine wpList_load_row rfl 37 _ rfl B rfl 37 #[a0,a1,a2,a3,a4,a5,a6,a7,a8,a9,a10,a11,a12,a13,a14,a15,a16,a17] (0,0) _ hC0 Tryd.underlying37 rfl HSA ?_))
 refine t1.mono ?_;rintro e x1 ⟨rfl,hb1⟩;rw[hzB] at hb1;have hz1:=hb1.size;have d1:=(hb1.block (B+1) (by omega)).trans hC1;have hb2:Below B w x1:=hbB.trans (hb1.mono (by omega))
 go_wp2_with (with_reducible refine Yac rfl 24 _ _ rfl (B+1) V Y rfl rfl 24 d1 HSV HYV HOV ?_;intro w5 hh5 hg5)
 refine bodyPost_ret (Yaj rfl _ _ (B+1) 24 _ (0,0) _ rfl hh5 Tryd.underlying24 rfl HSV) rfl ?_;exact⟨rfl,hb2.grown hg5 (by omega) (fun k hk=>by injection hk with hk;omega)⟩
theorem Yl2 (c:Cel)(p:Nat→Option Addr)(n k:Nat→Nat)(q:Int)(w:World)(hc:Yc8 w c p n)(hT:Ydr w)(hS:Ya9 w)(hP:Ybj w)(hD:Yby w):
  Calls Tryd.prog 13 #[.agg (Ydg c fun i=>.slice (p i) (n i) (k i)).toArray,.int .i64 q] w (Yf3 (Ydz c q) c w):=by
 refine Ye9 _ _ _ _ _ _ _ _ _ _ _ _ _ _ _ _ _ _ q (arn 384 (Yoh (Ydz c q) c).1) (Yoh (Ydz c q) c).2 w (Ybc _) (Ya5 _ _) fun x hx=>?_;exact Yhs 21 (Yj3 c (fun i=>.slice (p i) (n i) (k i)) q).toArray (Ydz c q) c p n k x (hc.below hx) (hT.below hx) (hS.below hx) Yoo fun b hb y hy=>by
  have h2:Below w.heap.size w y:=hx.trans (hy.mono hx.size);exact Ygo c p n k q b y hb (hc.below h2) (hP.below h2) (hD.below h2)
end Go.Proofs.YtdnjefldijjgdaaDoor