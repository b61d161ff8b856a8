/- No condition. -/
import Derived.Test.YtnamlooifcpoaaaGreatDoorScreensStillMa
import Derived.Test.YtnamlooifcpoaaaGreatDoorScreensStillMb
import Derived.Test.YtnamlooifcpoaaaGreatDoorScreensStillMj
import Derived.Test.YtnamlooifcpoaaaGreatDoorScreensStillMk
import Derived.Test.YtnamlooifcpoaaaGreatDoorScreensStillMl
import Derived.Test.YtnamlooifcpoaaaGreatDoorScreensStillMn
import Derived.Test.YtnamlooifcpoaaaGreatDoorScreensStillMp
import Derived.Test.YtnamlooifcpoaaaGreatDoorScreensStillMq
import Derived.Test.YtnamlooifcpoaaaGreatDoorScreensStillMv
import Derived.Test.YtnamlooifcpoaaaGreatDoorScreensStillMbs
import Derived.WalkKit
import Derived.WalkMore
import Derived.IntWalk
import Derived.Lib.Strings
import Derived.Lib.LaidTab
import Derived.MakeChecks
namespace Go.Proofs.YtnamlooifcpoaaaGreatDoor
open Go.RowKit Go.Lib
set_option maxRecDepth 100000 in
theorem Yij (c:Cel)(sl:Nat→Value)(w:World)(hs:Ybh w):Calls Tryz.prog 120 #[.agg (Ybp c sl).toArray] w fun e w'=>e=.returned (.bool (Yq5 c.kind c.step))∧Below w.heap.size w w':=by
 have hrow:=fun x (hx:Below w.heap.size w x)=>Yu0 c.step x (hs.below hx);obtain⟨A,hA,f0,f1,f2,f3,f4,f5,-,-⟩:=Yc2 c sl;rw[hA];have hb0:=(Below.refl _ w).alloc (Nat.le_refl _) (.cells A 48 (0,0));have H:=hrow _ hb0;have ZC:Hid (Yq5 c.kind c.step=if (c.kind==1 || c.kind==4) then !(Yfb c.step).data.toList.isEmpty else c.step==0):=Lib.hid rfl;clear hA hrow hs;generalize Yq5 c.kind c.step=z at *
 generalize (!(Yfb c.step).data.toList.isEmpty)=ne at *;generalize c.kind=kd at *;generalize c.step=sp at *;cases t0:(kd==1) with
 |true=>
  rw[t0] at ZC
  go_enter Tryz.func120,Tryz.ntmps120
  go_wp2_with fail
  refine H.mono ?_;rintro e w1 ⟨rfl,hb1⟩
  go_wp2
  go_ret
  exact⟨Yae (by rw[ZC.out];rfl),hb0.trans (hb1.mono hb0.size)⟩
 |false=>
  cases t1:(kd==4) with
  |true=>
   rw[t0,t1] at ZC
   go_enter Tryz.func120,Tryz.ntmps120
   go_wp2_with fail
   refine H.mono ?_;rintro e w1 ⟨rfl,hb1⟩
   go_wp2
   go_ret
   exact⟨Yae (by rw[ZC.out];rfl),hb0.trans (hb1.mono hb0.size)⟩
  |false=>
   rw[t0,t1] at ZC
   go_enter Tryz.func120,Tryz.ntmps120
   go_wp2
   go_ret
   exact⟨Yae (by rw[ZC.out];rfl),hb0⟩
set_option maxRecDepth 100000 in
theorem Ygv (c:Cel)(sl:Nat→Value)(w:World):Calls Tryz.prog 121 #[.agg (Ybp c sl).toArray] w fun e w'=>e=.returned (.bool (Yrf c.kind c.mx c.my))∧Below w.heap.size w w':=by
 have hin:=fun x=>Ygn c sl x;have hno:=fun x=>Yhj c.mx c.my x;have hwr:=fun x=>Ym4 c.mx c.my x;have E2:=Ymz c.mx c.my (Ym8 c.mx) (Ym8 c.my);have ZC:Hid (Yrf c.kind c.mx c.my=if Ya3 c.kind then c.mx==0&&c.my==0 else c.mx==Ym8 c.mx&&c.my==Ym8 c.my):=Lib.hid rfl;obtain⟨A,hA,f0,f1,f2,f3,f4,f5,-,-⟩:=Yc2 c sl;obtain⟨R,w0,hR,hw0,hz0,hb0,HSZ,hbx⟩:=Yee w hA;simp only[hA] at hin;have HBX:=Lib.hid hbx;rw[hA]
 have HW:=Lib.hid hw0;have HR:=Lib.hid hR;clear hA hw0 hbx hR;generalize Yrf c.kind c.mx c.my=z at *;generalize (c.mx==0&&c.my==0)=nb at *;generalize (c.mx==Ym8 c.mx&&c.my==Ym8 c.my)=eb at *;generalize Ym8 c.mx=u at *;generalize Ym8 c.my=v at *
 go_enter Tryz.func121,Tryz.ntmps121
 go_wp2_with (with_reducible refine wpList_load_row rfl 48 _ rfl w.heap.size rfl 48 A (0,0) _ (heap_alloc_new w _) Tryz.underlying48 rfl HSZ ?_)
 rw[HW.out,HR.out];refine(hin _).mono ?_;rintro e w1 ⟨rfl,hb1⟩;rw[hz0] at hb1;obtain⟨c0,c1,c2,c3,c4,c5⟩:=Yix (HBX.out w1 hb1).2;have hz1:=hb1.size;have hb2:=hb0.trans (hb1.mono (by omega));cases hik:Ya3 c.kind with
 |true=>
  rw[hik] at ZC
  go_wp2_with fail
  refine(hno _).mono ?_;rintro e w2 ⟨rfl,hb3⟩;have hb4:=hb2.trans (hb3.mono (by omega))
  go_wp2
  go_ret
  exact⟨Yae (by rw[ZC.out];rfl),by rw[HR.out];exact hb4⟩
 |false=>
  rw[hik] at ZC;have CF:=Lib.hid (fun x (hx:Below w1.heap.size w1 x)=>Yix (c:=c) (sl:=sl) (HBX.out x (hb1.trans (hx.mono (by omega)))).2);have WR:=Lib.hid (fun x (hx:Below w1.heap.size w1 x)=>((hwr x).mono fun e y h=>⟨h.1,hx.trans (h.2.mono hx.size)⟩:Calls Tryz.prog 148 #[.agg #[.int .i64 c.mx,.int .i64 c.my]] x fun e y=>e=.returned (.agg #[.int .i64 u,.int .i64 v])∧Below w1.heap.size w1 y))
  have hbd:=(Below.refl w1.heap.size w1).drew;clear c0 c1 c2 c3 c4 c5
  go_wp2
  refine Yan (S:=fun x=>Below w1.heap.size w1 x) 6 (by kernel_rfl) (by kernel_rfl) hbd ?_;simp only[List.take_succ_cons,List.take_zero,List.drop_succ_cons,List.drop_zero];refine Yab (by kernel_rfl) (fun x _=>by go_simp;try with_reducible rfl) ?_;simp only[Yaa]
  refine Yab (v:=.agg #[.int .i64 c.mx,.int .i64 c.my]) (by kernel_rfl) (fun x hx=>by obtain⟨-,-,-,-,c4,c5⟩:=CF.out x hx;go_simp) ?_;simp only[Yaa];refine Yab (by kernel_rfl) (fun x _=>by go_simp;try with_reducible rfl) ?_;simp only[Yaa];refine Yab (v:=.agg #[.int .i64 c.mx,.int .i64 c.my]) (by kernel_rfl) (fun x hx=>by obtain⟨-,-,-,-,c4,c5⟩:=CF.out x hx;go_simp) ?_;simp only[Yaa]
  refine Ya5 (by kernel_rfl) WR.out (fun _=>by kernel_rfl) ?_;simp only[Yaa];refine Yab (by kernel_rfl) (fun x _=>by go_simp;try with_reducible rfl) ?_;simp only[Yaa];refine Ybi fun x hx=>?_
  go_wp2
  go_ret
  exact⟨Yae (by rw[ZC.out];rfl),by rw[HR.out];exact hb2.trans (hx.mono (by omega))⟩
set_option maxRecDepth 100000 in
set_option maxHeartbeats 1000000 in
theorem Yig (c:Cel)(p:Nat→Option Addr)(n k:Nat→Nat)(B b:Nat)(r:List UInt8)(w:World)(hw:Ydd w B b r)(hr:r.length≤137438953472)(hB:B≤w.heap.size)(hfar:∀x,w.grownBy x (some b)→Yfd x∧Yeb x c p n):
  Calls Tryz.prog 149 #[.pointer (some ⟨b,0,none⟩),.agg (Ybp c fun i=>.slice (p i) (n i) (k i)).toArray] w fun e w'=>∃i,i≤6∧Ydd w' B b (r++Yri c i)∧w.grownBy w' (some b)∧((i=6∧Yf6 c=true∧e=.returned (.int .i64 0))∨(Yf6 c=false∧e=.returned (.int .i64 7))):=by
 have hin:=fun x=>Ygn c (fun i=>.slice (p i) (n i) (k i)) x;obtain⟨A,hA,f0,f1,f2,f3,f4,f5,⟨f6,f7,f8,f9,f10,f11⟩,f12,f13,f14,f15,f16,f17⟩:=Yc2 c fun i=>.slice (p i) (n i) (k i);obtain⟨R,w0,hR,hw0,hz0,hb0,HSZ,hbx⟩:=Yee w hA;simp only[hA] at hin;have HBX:=Lib.hid hbx;rw[hA];have HW:=Lib.hid hw0;have HR:=Lib.hid hR;have HA:=Lib.hid hA;have hRb:b≠R:=by have h1:=hw.lt;omega
 have hRb2:some R≠some b:=fun h=>by injection h with h;exact hRb h.symm
 have IDX:=Lib.hid (fun i hi x=>Ypb (fun i=>.slice (p i) (n i) (k i)) x i hi);have FAR:=Lib.hid hfar;have INT:=Lib.hid hin;have MAYS:=Lib.hid (show Yf6 c=true↔_ from Yr1);obtain⟨ik,hik⟩:∃ik,Ya3 c.kind=ik:=⟨_,rfl⟩;have HIK:=Lib.hid hik;rw[hik] at INT;have hg0:w.grownBy w0 (some b):=Yao (hR▸hb0) _
 have hw1:Ydd w0 B b (r++Yri c 0):=by rw[show r++Yri c 0=r from List.append_nil _];exact hw.below (hR▸hb0)
 have hbx0:=(hbx w0 (Below.refl _ _)).1;clear hA hw0 hbx hR hw hfar hin hik
 go_enter Tryz.func149,Tryz.ntmps149
 go_wp2
 rw[HW.out,HR.out]
 go_loopw [10] (fun z wr=>∃i:Nat,i≤6∧z=.int .i64 i∧Ydd wr B b (r++Yri c i)∧w.grownBy wr (some b)∧wr.heap[R]? =some (.cells A 48 (0,0))∧Hid (∀j,j<i→Ytb ik (c.dc j) (c.ev j)=true)) (fun z _=>6-(RowKit.intOf z).toNat)
 case atStart=>exact⟨0,by omega,rfl,hw1,hg0,hbx0,Lib.hid fun j h=>absurd h (Nat.not_lt_zero j)⟩
 case round=>
  clear hw1 hg0 hbx0;obtain⟨i,hi6,rfl,hw,hg,hbx,may⟩:=hrel;by_cases hlt:i<6
  ·have t0:decide ((i:Int)<6)=true:=by simp;omega
   have i0:=IDX.out i hlt;obtain⟨hT,hc⟩:=FAR.out _ hg;obtain⟨e1,e2,e3⟩:=hc i hlt;have hzw:B≤wr.heap.size:=Nat.le_trans hB hg.size;have hzR:R<wr.heap.size:=by have:=(Array.getElem?_eq_some_iff.1 hbx).1;exact this
   have hln:(r++Yri c i).length≤274877906944:=by
    have h1:=Yom (c:=c) (n:=64) i fun j hj=>Yj4 (Yga (may.out j hj)).2;have h2:(8+22*64)*i≤(8+22*64)*6:=Nat.mul_le_mul_left _ hi6;rw[List.length_append];omega
   have LB:=Lib.hid (fun x (hx:Below wr.heap.size wr x)=>(hx.block R hzR).trans hbx);have HSQ:(Ybp c fun i=>.slice (p i) (n i) (k i)).toArray=A:=HA.out;have DC:=Lib.hid (fun x (hx:Below wr.heap.size wr x)=>Yac (o:=6+i) (show x.heap[R]? =some (.cells (Ybp c fun i=>.slice (p i) (n i) (k i)).toArray 48 (0,0)) by rw[HSQ];exact LB.out x hx) (Yyg c _ i hlt))
   have IN:=Lib.hid (fun x (hx:Below wr.heap.size wr x)=>(INT.out x).mono fun e y h=>(⟨h.1,hx.trans (h.2.mono hx.size)⟩:e=.returned (.bool ik)∧Below wr.heap.size wr y));have hbd:=(Below.refl wr.heap.size wr).drew;have hput:∀x,Below wr.heap.size wr x→Ydd x B b (r++Yri c i)∧B≤x.heap.size∧Yex x (p i) (c.ev i)∧Yfd x:=fun x hx=>⟨hw.below hx,Nat.le_trans hzw hx.size,e3.below hx,hT.below hx⟩
   have HPUT:=Lib.hid hput;have HG:=Lib.hid hg;have HLN:=Lib.hid hln;have HE:=Lib.hid e1;have HE2:=Lib.hid e2;clear hT hc e1 e2 e3 hput hw hg hln HSQ
   go_wp2
   refine Yan (S:=fun x=>Below wr.heap.size wr x) 8 (by kernel_rfl) (by kernel_rfl) hbd ?_;simp only[List.take_succ_cons,List.take_zero,List.drop_succ_cons,List.drop_zero];refine Yab (by kernel_rfl) (fun x _=>by go_simp;try with_reducible rfl) ?_;simp only[Yaa];refine Yc9 48 _ R 48 A (0,0) _ (by kernel_rfl) rfl rfl (fun x hx=>LB.out x hx) Tryz.underlying48 rfl HSZ ?_;simp only[Yaa]
   refine Ya5 (by kernel_rfl) IN.out (fun _=>by kernel_rfl) ?_;simp only[Yaa]
   iterate 2 (refine Yab (by kernel_rfl) (fun x _=>by go_simp;try with_reducible rfl) ?_;simp only[Yaa])
   refine Yab (by kernel_rfl) (fun x _=>by go_simp;rw[if_pos (by omega)]) ?_;simp only[Yaa];refine Yas 3 _ ⟨R,6+i,none⟩ (.int .i64 (c.dc i)) (by kernel_rfl) rfl rfl (fun x hx=>by have c0:=DC.out x hx;go_simp) ?_;simp only[Yaa];refine Yab (by kernel_rfl) (fun x _=>by go_simp;try with_reducible rfl) ?_;simp only[Yaa];refine Ybi fun x hx=>?_;obtain⟨hw,hzx,hp,hT⟩:=HPUT.out x hx
   by_cases hm:Ytb ik (c.dc i) (c.ev i)=true
   ·have hp2:=Yye ik (c.dc i) (p i) (c.ev i) (k i) B b (r++Yri c i) x hw HLN.out hzx hp hT hm;rw[←HE.out] at hp2;have HM:=Lib.hid hm;clear hm hw hp hT
    go_wp2_with fail
    refine hp2.mono ?_;rintro e w2 ⟨rfl,hw2,hg2⟩;have HN:=Lib.hid (show Yri c (i+1)=Yri c i++Ymd ik (c.dc i) (c.ev i) by rw[←HIK.out];rfl);rw[List.append_assoc,←HN.out] at hw2;have hbx2:=(hg2.block R (Nat.lt_of_lt_of_le hzR hx.size) hRb2).trans (LB.out x hx);have hg3:=Yag HG.out (Yag (Yao hx (some b)) hg2)
    go_wp2
    go_roundw
    case rel=>exact⟨i+1,by omega,by go_num,hw2,hg3,hbx2,Lib.hid fun j hj=>(Nat.lt_succ_iff_lt_or_eq.1 hj).elim (may.out j) fun h=>h▸HM.out⟩
    case measure=>simp[RowKit.intOf];omega
   ·have hp2:=Yvp ik (c.dc i) (p i) (c.ev i) (k i) b x hp (by rw[←HE.out];have:=HE2.out;omega) (by simpa using hm);rw[←HE.out] at hp2;have HM:=Lib.hid hm;have HWX:=Lib.hid hw;clear hm hw hp hT
    go_wp2_with fail
    refine hp2.mono ?_;rintro e w2 ⟨rfl,hb2⟩;have hw2:=HWX.out.below hb2;have hg3:=Yag HG.out (Yag (Yao hx (some b)) (Yao hb2 _))
    go_wp2
    go_ret
    refine⟨i,hi6,hw2,hg3,.inr ⟨?_,rfl⟩⟩;refine Bool.eq_false_iff.2 fun h=>HM.out ?_;rw[←HIK.out];exact MAYS.out.1 h i hlt
  ·obtain rfl:i=6:=by omega
   go_wp2
   go_ret
   refine⟨6,by omega,hw,hg,.inl ⟨rfl,?_,rfl⟩⟩;rw[MAYS.out,HIK.out];exact may.out
end Go.Proofs.YtnamlooifcpoaaaGreatDoor