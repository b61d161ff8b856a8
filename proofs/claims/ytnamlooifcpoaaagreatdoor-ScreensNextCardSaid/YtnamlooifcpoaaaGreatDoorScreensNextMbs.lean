/- No condition. -/
import Derived.Test.YtnamlooifcpoaaaGreatDoorScreensNextMa
import Derived.Test.YtnamlooifcpoaaaGreatDoorScreensNextMb
import Derived.Test.YtnamlooifcpoaaaGreatDoorScreensNextMj
import Derived.Test.YtnamlooifcpoaaaGreatDoorScreensNextMk
import Derived.Test.YtnamlooifcpoaaaGreatDoorScreensNextMl
import Derived.Test.YtnamlooifcpoaaaGreatDoorScreensNextMn
import Derived.Test.YtnamlooifcpoaaaGreatDoorScreensNextMp
import Derived.Test.YtnamlooifcpoaaaGreatDoorScreensNextMu
import Derived.Test.YtnamlooifcpoaaaGreatDoorScreensNextMz
import Derived.Test.YtnamlooifcpoaaaGreatDoorScreensNextMbk
import Derived.Test.YtnamlooifcpoaaaGreatDoorScreensNextMbr
import Derived.WalkKit
import Derived.WalkMore
import Derived.IntWalk
import Derived.Lib.Strings
import Derived.Lib.LaidTab
import Derived.MakeChecks
namespace Go.Proofs.YtnamlooifcpoaaaGreatDoor
open Go.RowKit Go.Lib
set_option maxRecDepth 100000 in
theorem Yku (c:Cel)(sl:Nat→Value)(w:World)(hs:Yb9 w):Calls Tryz.prog 120 #[.agg (Ycd c sl).toArray] w fun e w'=>e=.returned (.bool (Yfq c.kind c.step))∧Below w.heap.size w w':=by
 have hrow:=fun x (hx:Below w.heap.size w x)=>Yyq c.step x (hs.below hx);obtain⟨A,hA,f0,f1,f2,f3,f4,f5,-,-⟩:=Ydi c sl;rw[hA];have hb0:=(Below.refl _ w).alloc (Nat.le_refl _) (.cells A 48 (0,0));have H:=hrow _ hb0;have ZC:Hid (Yfq c.kind c.step=if (c.kind==1 || c.kind==4) then !(Ycn c.step).data.toList.isEmpty else c.step==0):=Lib.hid rfl;clear hA hrow hs;generalize Yfq c.kind c.step=z at *
 generalize (!(Ycn c.step).data.toList.isEmpty)=ne at *;generalize c.kind=kd at *;generalize c.step=sp at *;cases t0:(kd==1) with
 |true=>
  rw[t0] at ZC
  go_enter Tryz.func120,Tryz.ntmps120
  go_wp2_with fail
  refine H.mono ?_;rintro e w1 ⟨rfl,hb1⟩
  go_wp2
  go_ret
  exact⟨Yad (by rw[ZC.out];rfl),hb0.trans (hb1.mono hb0.size)⟩
 |false=>
  cases t1:(kd==4) with
  |true=>
   rw[t0,t1] at ZC
   go_enter Tryz.func120,Tryz.ntmps120
   go_wp2_with fail
   refine H.mono ?_;rintro e w1 ⟨rfl,hb1⟩
   go_wp2
   go_ret
   exact⟨Yad (by rw[ZC.out];rfl),hb0.trans (hb1.mono hb0.size)⟩
  |false=>
   rw[t0,t1] at ZC
   go_enter Tryz.func120,Tryz.ntmps120
   go_wp2
   go_ret
   exact⟨Yad (by rw[ZC.out];rfl),hb0⟩
set_option maxRecDepth 100000 in
theorem Yir (c:Cel)(sl:Nat→Value)(w:World):Calls Tryz.prog 121 #[.agg (Ycd c sl).toArray] w fun e w'=>e=.returned (.bool (Ypn c.kind c.mx c.my))∧Below w.heap.size w w':=by
 have hin:=fun x=>Yih c sl x;have hno:=fun x=>Yjs c.mx c.my x;have hwr:=fun x=>Ypt c.mx c.my x;have E2:=Ypm c.mx c.my (Ykk c.mx) (Ykk c.my);have ZC:Hid (Ypn c.kind c.mx c.my=if Yaj c.kind then c.mx==0&&c.my==0 else c.mx==Ykk c.mx&&c.my==Ykk c.my):=Lib.hid rfl;obtain⟨A,hA,f0,f1,f2,f3,f4,f5,-,-⟩:=Ydi c sl;obtain⟨R,w0,hR,hw0,hz0,hb0,HSZ,hbx⟩:=Yei w hA;simp only[hA] at hin;have HBX:=Lib.hid hbx;rw[hA]
 have HW:=Lib.hid hw0;have HR:=Lib.hid hR;clear hA hw0 hbx hR;generalize Ypn c.kind c.mx c.my=z at *;generalize (c.mx==0&&c.my==0)=nb at *;generalize (c.mx==Ykk c.mx&&c.my==Ykk c.my)=eb at *;generalize Ykk c.mx=u at *;generalize Ykk c.my=v at *
 go_enter Tryz.func121,Tryz.ntmps121
 go_wp2_with (with_reducible refine wpList_load_row rfl 48 _ rfl w.heap.size rfl 48 A (0,0) _ (heap_alloc_new w _) Tryz.underlying48 rfl HSZ ?_)
 rw[HW.out,HR.out];refine(hin _).mono ?_;rintro e w1 ⟨rfl,hb1⟩;rw[hz0] at hb1;obtain⟨c0,c1,c2,c3,c4,c5⟩:=Ybe (HBX.out w1 hb1).2;have hz1:=hb1.size;have hb2:=hb0.trans (hb1.mono (by omega));cases hik:Yaj c.kind with
 |true=>
  rw[hik] at ZC
  go_wp2_with fail
  refine(hno _).mono ?_;rintro e w2 ⟨rfl,hb3⟩;have hb4:=hb2.trans (hb3.mono (by omega))
  go_wp2
  go_ret
  exact⟨Yad (by rw[ZC.out];rfl),by rw[HR.out];exact hb4⟩
 |false=>
  rw[hik] at ZC;have CF:=Lib.hid (fun x (hx:Below w1.heap.size w1 x)=>Ybe (c:=c) (sl:=sl) (HBX.out x (hb1.trans (hx.mono (by omega)))).2);have WR:=Lib.hid (fun x (hx:Below w1.heap.size w1 x)=>((hwr x).mono fun e y h=>⟨h.1,hx.trans (h.2.mono hx.size)⟩:Calls Tryz.prog 148 #[.agg #[.int .i64 c.mx,.int .i64 c.my]] x fun e y=>e=.returned (.agg #[.int .i64 u,.int .i64 v])∧Below w1.heap.size w1 y))
  have hbd:=(Below.refl w1.heap.size w1).drew;clear c0 c1 c2 c3 c4 c5
  go_wp2
  refine Yaf (S:=fun x=>Below w1.heap.size w1 x) 6 (by kernel_rfl) (by kernel_rfl) hbd ?_;simp only[List.take_succ_cons,List.take_zero,List.drop_succ_cons,List.drop_zero];refine Yab (by kernel_rfl) (fun x _=>by go_simp;try with_reducible rfl) ?_;simp only[Yaa]
  refine Yab (v:=.agg #[.int .i64 c.mx,.int .i64 c.my]) (by kernel_rfl) (fun x hx=>by obtain⟨-,-,-,-,c4,c5⟩:=CF.out x hx;go_simp) ?_;simp only[Yaa];refine Yab (by kernel_rfl) (fun x _=>by go_simp;try with_reducible rfl) ?_;simp only[Yaa];refine Yab (v:=.agg #[.int .i64 c.mx,.int .i64 c.my]) (by kernel_rfl) (fun x hx=>by obtain⟨-,-,-,-,c4,c5⟩:=CF.out x hx;go_simp) ?_;simp only[Yaa]
  refine Yah (by kernel_rfl) WR.out (fun _=>by kernel_rfl) ?_;simp only[Yaa];refine Yab (by kernel_rfl) (fun x _=>by go_simp;try with_reducible rfl) ?_;simp only[Yaa];refine Yar fun x hx=>?_
  go_wp2
  go_ret
  exact⟨Yad (by rw[ZC.out];rfl),by rw[HR.out];exact hb2.trans (hx.mono (by omega))⟩
set_option maxRecDepth 100000 in
set_option maxHeartbeats 1000000 in
theorem Yks (c:Cel)(p:Nat→Option Addr)(n k:Nat→Nat)(B b:Nat)(r:List UInt8)(w:World)(hw:Yep w B b r)(hr:r.length≤137438953472)(hB:B≤w.heap.size)(hfar:∀x,w.grownBy x (some b)→Yg6 x∧Yea x c p n):
  Calls Tryz.prog 149 #[.pointer (some ⟨b,0,none⟩),.agg (Ycd c fun i=>.slice (p i) (n i) (k i)).toArray] w fun e w'=>∃i,i≤6∧Yep w' B b (r++Yu6 c i)∧w.grownBy w' (some b)∧((i=6∧Ye7 c=true∧e=.returned (.int .i64 0))∨(Ye7 c=false∧e=.returned (.int .i64 7))):=by
 have hin:=fun x=>Yih c (fun i=>.slice (p i) (n i) (k i)) x;obtain⟨A,hA,f0,f1,f2,f3,f4,f5,⟨f6,f7,f8,f9,f10,f11⟩,f12,f13,f14,f15,f16,f17⟩:=Ydi c fun i=>.slice (p i) (n i) (k i);obtain⟨R,w0,hR,hw0,hz0,hb0,HSZ,hbx⟩:=Yei w hA;simp only[hA] at hin;have HBX:=Lib.hid hbx;rw[hA];have HW:=Lib.hid hw0;have HR:=Lib.hid hR;have HA:=Lib.hid hA;have hRb:b≠R:=by have h1:=hw.lt;omega
 have hRb2:some R≠some b:=fun h=>by injection h with h;exact hRb h.symm
 have IDX:=Lib.hid (fun i hi x=>Ysj (fun i=>.slice (p i) (n i) (k i)) x i hi);have FAR:=Lib.hid hfar;have INT:=Lib.hid hin;have MAYS:=Lib.hid (show Ye7 c=true↔_ from Yny);obtain⟨ik,hik⟩:∃ik,Yaj c.kind=ik:=⟨_,rfl⟩;have HIK:=Lib.hid hik;rw[hik] at INT;have hg0:w.grownBy w0 (some b):=Ya2 (hR▸hb0) _
 have hw1:Yep w0 B b (r++Yu6 c 0):=by rw[show r++Yu6 c 0=r from List.append_nil _];exact hw.below (hR▸hb0)
 have hbx0:=(hbx w0 (Below.refl _ _)).1;clear hA hw0 hbx hR hw hfar hin hik
 go_enter Tryz.func149,Tryz.ntmps149
 go_wp2
 rw[HW.out,HR.out]
 go_loopw [10] (fun z wr=>∃i:Nat,i≤6∧z=.int .i64 i∧Yep wr B b (r++Yu6 c i)∧w.grownBy wr (some b)∧wr.heap[R]? =some (.cells A 48 (0,0))∧Hid (∀j,j<i→Yio ik (c.dc j) (c.ev j)=true)) (fun z _=>6-(RowKit.intOf z).toNat)
 case atStart=>exact⟨0,by omega,rfl,hw1,hg0,hbx0,Lib.hid fun j h=>absurd h (Nat.not_lt_zero j)⟩
 case round=>
  clear hw1 hg0 hbx0;obtain⟨i,hi6,rfl,hw,hg,hbx,may⟩:=hrel;by_cases hlt:i<6
  ·have t0:decide ((i:Int)<6)=true:=by simp;omega
   have i0:=IDX.out i hlt;obtain⟨hT,hc⟩:=FAR.out _ hg;obtain⟨e1,e2,e3⟩:=hc i hlt;have hzw:B≤wr.heap.size:=Nat.le_trans hB hg.size;have hzR:R<wr.heap.size:=by have:=(Array.getElem?_eq_some_iff.1 hbx).1;exact this
   have hln:(r++Yu6 c i).length≤274877906944:=by
    have h1:=Yrm (c:=c) (n:=64) i fun j hj=>Ymc (Yh5 (may.out j hj)).2;have h2:(8+22*64)*i≤(8+22*64)*6:=Nat.mul_le_mul_left _ hi6;rw[List.length_append];omega
   have LB:=Lib.hid (fun x (hx:Below wr.heap.size wr x)=>(hx.block R hzR).trans hbx);have HSQ:(Ycd c fun i=>.slice (p i) (n i) (k i)).toArray=A:=HA.out;have DC:=Lib.hid (fun x (hx:Below wr.heap.size wr x)=>Yac (o:=6+i) (show x.heap[R]? =some (.cells (Ycd c fun i=>.slice (p i) (n i) (k i)).toArray 48 (0,0)) by rw[HSQ];exact LB.out x hx) (Yeh c _ i hlt))
   have IN:=Lib.hid (fun x (hx:Below wr.heap.size wr x)=>(INT.out x).mono fun e y h=>(⟨h.1,hx.trans (h.2.mono hx.size)⟩:e=.returned (.bool ik)∧Below wr.heap.size wr y));have hbd:=(Below.refl wr.heap.size wr).drew;have hput:∀x,Below wr.heap.size wr x→Yep x B b (r++Yu6 c i)∧B≤x.heap.size∧Yfi x (p i) (c.ev i)∧Yg6 x:=fun x hx=>⟨hw.below hx,Nat.le_trans hzw hx.size,e3.below hx,hT.below hx⟩
   have HPUT:=Lib.hid hput;have HG:=Lib.hid hg;have HLN:=Lib.hid hln;have HE:=Lib.hid e1;have HE2:=Lib.hid e2;clear hT hc e1 e2 e3 hput hw hg hln HSQ
   go_wp2
   refine Yaf (S:=fun x=>Below wr.heap.size wr x) 8 (by kernel_rfl) (by kernel_rfl) hbd ?_;simp only[List.take_succ_cons,List.take_zero,List.drop_succ_cons,List.drop_zero];refine Yab (by kernel_rfl) (fun x _=>by go_simp;try with_reducible rfl) ?_;simp only[Yaa];refine Ya0 48 _ R 48 A (0,0) _ (by kernel_rfl) rfl rfl (fun x hx=>LB.out x hx) Tryz.underlying48 rfl HSZ ?_;simp only[Yaa]
   refine Yah (by kernel_rfl) IN.out (fun _=>by kernel_rfl) ?_;simp only[Yaa]
   iterate 2 (refine Yab (by kernel_rfl) (fun x _=>by go_simp;try with_reducible rfl) ?_;simp only[Yaa])
   refine Yab (by kernel_rfl) (fun x _=>by go_simp;rw[if_pos (by omega)]) ?_;simp only[Yaa];refine Yag 3 _ ⟨R,6+i,none⟩ (.int .i64 (c.dc i)) (by kernel_rfl) rfl rfl (fun x hx=>by have c0:=DC.out x hx;go_simp) ?_;simp only[Yaa];refine Yab (by kernel_rfl) (fun x _=>by go_simp;try with_reducible rfl) ?_;simp only[Yaa];refine Yar fun x hx=>?_;obtain⟨hw,hzx,hp,hT⟩:=HPUT.out x hx
   by_cases hm:Yio ik (c.dc i) (c.ev i)=true
   ·have hp2:=Y1r ik (c.dc i) (p i) (c.ev i) (k i) B b (r++Yu6 c i) x hw HLN.out hzx hp hT hm;rw[←HE.out] at hp2;have HM:=Lib.hid hm;clear hm hw hp hT
    go_wp2_with fail
    refine hp2.mono ?_;rintro e w2 ⟨rfl,hw2,hg2⟩;have HN:=Lib.hid (show Yu6 c (i+1)=Yu6 c i++Yo1 ik (c.dc i) (c.ev i) by rw[←HIK.out];rfl);rw[List.append_assoc,←HN.out] at hw2;have hbx2:=(hg2.block R (Nat.lt_of_lt_of_le hzR hx.size) hRb2).trans (LB.out x hx);have hg3:=Yal HG.out (Yal (Ya2 hx (some b)) hg2)
    go_wp2
    go_roundw
    case rel=>exact⟨i+1,by omega,by go_num,hw2,hg3,hbx2,Lib.hid fun j hj=>(Nat.lt_succ_iff_lt_or_eq.1 hj).elim (may.out j) fun h=>h▸HM.out⟩
    case measure=>simp[RowKit.intOf];omega
   ·have hp2:=Yy6 ik (c.dc i) (p i) (c.ev i) (k i) b x hp (by rw[←HE.out];have:=HE2.out;omega) (by simpa using hm);rw[←HE.out] at hp2;have HM:=Lib.hid hm;have HWX:=Lib.hid hw;clear hm hw hp hT
    go_wp2_with fail
    refine hp2.mono ?_;rintro e w2 ⟨rfl,hb2⟩;have hw2:=HWX.out.below hb2;have hg3:=Yal HG.out (Yal (Ya2 hx (some b)) (Ya2 hb2 _))
    go_wp2
    go_ret
    refine⟨i,hi6,hw2,hg3,.inr ⟨?_,rfl⟩⟩;refine Bool.eq_false_iff.2 fun h=>HM.out ?_;rw[←HIK.out];exact MAYS.out.1 h i hlt
  ·obtain rfl:i=6:=by omega
   go_wp2
   go_ret
   refine⟨6,by omega,hw,hg,.inl ⟨rfl,?_,rfl⟩⟩;rw[MAYS.out,HIK.out];exact may.out
theorem Yog {w x:World}{b N:Nat}(h:w.grownBy x (some b))(hN:N≤b)(hz:N≤w.heap.size):Below N w x:=
 ⟨h.os,h.tape,h.output,h.size,fun k hk=>h.block k (by omega) (fun e=>by injection e with e;omega)⟩
set_option maxRecDepth 100000 in
theorem Yiq (c:Cel)(p:Nat→Option Addr)(n k:Nat→Nat)(w:World)(hc:Yea w c p n)(hT:Yg6 w):Calls Tryz.prog 122 #[.agg (Ycd c fun i=>.slice (p i) (n i) (k i)).toArray] w fun e w'=>e=.returned (.bool (Ye7 c))∧Below w.heap.size w w':=by
 have hput:=fun x (hx:Below w.heap.size w x)=>Yks c p n k (x.heap.size+1) x.heap.size [] (x.alloc Yhm) (Yep.fresh rfl (Nat.lt_succ_self _)) (by simp) (by simp) (fun y hy=>by
  have h1:=hx.trans ((((Below.refl _ x).alloc (Nat.le_refl _) Yhm).trans (Yog hy (Nat.le_refl _) (by simp))).mono hx.size);exact⟨hT.below h1,hc.below h1⟩)
 obtain⟨A,hA,-,-,-,-,-,-,-,-⟩:=Ydi c fun i=>.slice (p i) (n i) (k i);obtain⟨R,w0,hR,hw0,hz0,hb0,HSZ,hbx⟩:=Yei w hA;rw[hA];obtain⟨ev,hev⟩:∃ev:Int,(if Ye7 c=true then 0 else 7)=ev:=⟨_,rfl⟩;have HEV:Hid ((ev==0)=Ye7 c):=Lib.hid (by rw[←hev];cases Ye7 c <;> rfl)
 have HPUT:Hid (∀x,(Below R w x∧x.heap[R]? =some (.cells A 48 (0,0)))→Calls Tryz.prog 149 #[.pointer (some ⟨x.heap.size,0,none⟩),.agg A] (x.alloc Yhm) fun e y=>e=.returned (.int .i64 ev)∧Below R w y∧y.heap[R]? =some (.cells A 48 (0,0))):=Lib.hid (by
  intro x hx;have h1:=hput x (by rw[hR];exact hx.1);rw[hA] at h1;refine h1.mono ?_;rintro e y ⟨i,_,_,hg,h2⟩;have h3:Below x.heap.size x y:=((Below.refl _ x).alloc (Nat.le_refl _) Yhm).trans (Yog hg (Nat.le_refl _) (by simp));refine⟨?_,hx.1.trans (h3.mono (by have:=hx.1.size;omega)),(h3.block R (Array.getElem?_eq_some_iff.1 hx.2).1).trans hx.2⟩;rcases h2 with ⟨_,h4,rfl⟩|⟨h4,rfl⟩
  ·rw[←hev,h4];rfl
  ·rw[←hev,h4];rfl)
 have hbx0:=(hbx w0 (Below.refl _ _)).1;have HW:=Lib.hid hw0;have HR:=Lib.hid hR;clear hA hw0 hR hbx hput hc hT hev;generalize Ye7 c=bb at *
 go_enter Tryz.func122,Tryz.ntmps122
 go_wp2
 rw[HW.out,HR.out];refine wp_region_held_drew (S:=fun x=>Below R w x∧x.heap[R]? =some (.cells A 48 (0,0))) (by kernel_rfl) ⟨hb0.drew,hbx0⟩ (fun hH=>?_)
 refine Yas 1 (some 4) (v:=.agg A) rfl rfl (by kernel_rfl) (by kernel_rfl) (by kernel_rfl) (fun _ _ _ h=>h) hH (Or.inl ⟨by kernel_rfl,fun x hx=>Ybz (ty:=48) (x:=.tmp 1) (ad:=⟨R,0,none⟩) (by kernel_rfl) (by kernel_rfl) (run_loadVar_row x (R) _ _ A (0,0) _ (hx.2) Tryz.underlying48 rfl HSZ)⟩) ?_
 try simp only[Yaa]
 refine wpAnyH_ready (rs:=[0]) (by kernel_rfl) (by simp) ?_;refine AllReadyH.cons rfl (fun K hK=>?_) AllReadyH.nil
 go_simp
 go_wp2_with fail
 obtain⟨x0,hx0⟩:∃x0,w0.drew=x0:=⟨_,rfl⟩;rw[hx0] at hH ⊢;have hxz:R<x0.heap.size:=by rw[←hx0];show R<w0.heap.size;omega
 have hX:=hH;refine(Yr4 _).mono ?_;rintro e w2 ⟨rfl,rfl⟩;refine hK.out _ _ (⟨hH.1.alloc (Nat.le_of_lt hxz) _,Yap hH.2⟩) (fun hH2=>?_);clear hK K hH;have hH:=hH2;clear hH2
 try simp only[Yaa]
 refine wpAnyH_ready (rs:=[2]) (by kernel_rfl) (by simp) ?_;refine AllReadyH.cons rfl (fun K hK=>?_) AllReadyH.nil
 go_simp
 go_wp2_with fail
 refine(HPUT.out x0 hX).mono ?_;rintro e w3 ⟨rfl,hb3,hk3⟩;refine hK.out _ _ (⟨hb3,hk3⟩) (fun hH2=>?_);clear hK K hH;have hH:=hH2;clear hH2
 try simp only[Yaa]
 refine Yav 3 (some 6) hH ?_
 try simp only[Yaa]
 refine Yav 4 (some 2) hH ?_
 try simp only[Yaa]
 refine wpAnyH_done (by kernel_rfl) ?_ _
 go_wp2
 go_ret
 exact⟨Yad HEV.out,by rw[HR.out];exact hH.1⟩
set_option maxRecDepth 100000 in
theorem Ygy (inter:Bool)(c:Cel)(p:Nat→Option Addr)(n k:Nat→Nat)(w:World)(hc:Yea w c p n)(hT:Yg6 w)(hS:Yb9 w):Calls Tryz.prog 95 #[.bool inter,.agg (Ycd c fun i=>.slice (p i) (n i) (k i)).toArray] w fun e w'=>e=.returned (.bool (Ybi inter c))∧Below w.heap.size w w':=by
 have hba:=fun x (hx:Below w.heap.size w x)=>Yp4 c p n k x (hc.below hx);have hki:=fun x=>Ykt inter c.kind x;have hst:=fun x (hx:Below w.heap.size w x)=>Yku c (fun i=>.slice (p i) (n i) (k i)) x (hS.below hx);have hve:=fun x=>Yir c (fun i=>.slice (p i) (n i) (k i)) x;have hbl:=fun x (hx:Below w.heap.size w x)=>Yiq c p n k x (hc.below hx) (hT.below hx)
 have ZC:Hid (Ybi inter c=((decide (0≤c.stuff)&&decide (c.stuff≤64))&&(if c.skip then inter&&Yg5 c else (Yfo inter c.kind&&Yfq c.kind c.step)&&(Ypn c.kind c.mx c.my&&Ye7 c)))):=Lib.hid rfl;obtain⟨A,hA,f0,f1,f2,f3,f4,f5,-,-⟩:=Ydi c fun i=>.slice (p i) (n i) (k i);obtain⟨R,w0,hR,hw0,hz0,hb0,HSZ,hbx⟩:=Yei w hA;simp only[hA] at hba hst hve hbl;rw[hR] at hba hst hbl;rw[hA];have HW:=Lib.hid hw0
 have HR:=Lib.hid hR;have HBX:=Lib.hid hbx;have HBA:=Lib.hid hba;have HST:=Lib.hid hst;have HBL:=Lib.hid hbl;clear hA hw0 hR hbx hba hst hbl hc hT hS;generalize Ybi inter c=z at *;generalize Yg5 c=zb at *;generalize Yfq c.kind c.step=sb at *;generalize Ypn c.kind c.mx c.my=vb at *;generalize Ye7 c=bb at *;by_cases h0:c.stuff<0
 ·have t0:decide (c.stuff<0)=true:=decide_eq_true h0;have Z:=Lib.hid (show z=false by rw[ZC.out,decide_eq_false (by omega:¬ 0≤c.stuff)];rfl);clear h0 ZC
  go_enter Tryz.func95,Tryz.ntmps95
  go_wp2
  go_ret
  exact⟨Yad Z.out.symm,by rw[HW.out,HR.out];exact hb0⟩
 by_cases h1:64<c.stuff
 ·have t0:decide (c.stuff<0)=false:=decide_eq_false h0;have t1:decide (64<c.stuff)=true:=decide_eq_true h1;have Z:=Lib.hid (show z=false by rw[ZC.out,decide_eq_false (by omega:¬ c.stuff≤64),Bool.and_false];rfl);clear h0 h1 ZC
  go_enter Tryz.func95,Tryz.ntmps95
  go_wp2
  go_ret
  exact⟨Yad Z.out.symm,by rw[HW.out,HR.out];exact hb0⟩
 have t0:decide (c.stuff<0)=false:=decide_eq_false h0;have t1:decide (64<c.stuff)=false:=decide_eq_false h1;rw[decide_eq_true (by omega:0≤c.stuff),decide_eq_true (by omega:c.stuff≤64)] at ZC;clear h0 h1;cases hsk:c.skip with
 |true=>
  rw[hsk] at ZC f1;cases inter with
  |false=>
   have Z:=Lib.hid (show z=false by rw[ZC.out];rfl)
   go_enter Tryz.func95,Tryz.ntmps95
   go_wp2
   go_ret
   exact⟨Yad Z.out.symm,by rw[HW.out,HR.out];exact hb0⟩
  |true=>
   have Z:=Lib.hid (show z=zb by rw[ZC.out];rfl)
   go_enter Tryz.func95,Tryz.ntmps95
   go_wp2_with (with_reducible refine Yam (by kernel_rfl) 48 _ rfl w.heap.size rfl 48 A (0,0) _ (heap_alloc_new w _) Tryz.underlying48 rfl HSZ ?_)
   rw[HW.out,HR.out];refine(HBA.out _ hb0).mono ?_;rintro e w1 ⟨rfl,hb1⟩;have hb2:=hb0.trans (hb1.mono (by omega))
   go_wp2
   go_ret
   exact⟨Yad Z.out.symm,by rw[HR.out];exact hb2⟩
 |false=>
  rw[hsk] at ZC f1;have Z:=Lib.hid (show z=(Yfo inter c.kind&&sb&&(vb&&bb)) by rw[ZC.out];rfl);clear ZC;generalize Yfo inter c.kind=kb at *
  go_enter Tryz.func95,Tryz.ntmps95
  go_wp2_with fail
  rw[HW.out,HR.out];refine(hki _).mono ?_;rintro e w1 ⟨rfl,rfl⟩;obtain⟨g1,g2⟩:=HBX.out _ (Below.refl _ _);cases kb with
  |false=>
   go_wp2
   go_ret
   exact⟨Yad (by rw[Z.out];rfl),by rw[HR.out];exact hb0⟩
  |true=>
   go_wp2_with (with_reducible refine Yam (by kernel_rfl) 48 _ rfl R rfl 48 A (0,0) _ g1 Tryz.underlying48 rfl HSZ ?_)
   refine(HST.out _ hb0).mono ?_;rintro e w1 ⟨rfl,hb1⟩;have hb2:=hb0.trans (hb1.mono (by omega));have hz1:=hb1.size;have g1:=(HBX.out _ (hb1.mono (by omega))).1;cases sb with
   |false=>
    go_wp2
    go_ret
    exact⟨Yad (by rw[Z.out];rfl),by rw[HR.out];exact hb2⟩
   |true=>
    go_wp2_with (with_reducible refine Yam (by kernel_rfl) 48 _ rfl R rfl 48 A (0,0) _ g1 Tryz.underlying48 rfl HSZ ?_)
    refine(hve _).mono ?_;rintro e w2 ⟨rfl,hb3⟩;have hb4:=hb2.trans (hb3.mono (by omega));have hz2:=hb3.size;have g1:=(HBX.out _ ((hb1.trans (hb3.mono hz1)).mono (by omega))).1;cases vb with
    |false=>
     go_wp2
     go_ret
     exact⟨Yad (by rw[Z.out];rfl),by rw[HR.out];exact hb4⟩
    |true=>
     go_wp2_with (with_reducible refine Yam (by kernel_rfl) 48 _ rfl R rfl 48 A (0,0) _ g1 Tryz.underlying48 rfl HSZ ?_)
     refine(HBL.out _ hb4).mono ?_;rintro e w3 ⟨rfl,hb5⟩;have hb6:=hb4.trans (hb5.mono (by omega))
     go_wp2
     go_ret
     exact⟨Yad (by rw[Z.out];rfl),by rw[HR.out];exact hb6⟩
def Y1k (fn:FuncId)(X:Array Value)(F:Nat→Nat→Int)(w:World):Prop:=∀(b:Nat),b<6→∀x,Below w.heap.size w x→Calls Tryz.prog fn #[.agg X,.int .i64 (b:Int)] x (Ybq (F b) x)
def Yl3 (F:Nat→Nat→Int)(c:Cel)(w:World)(e:Ending)(w':World):Prop:=e=.returned (.tuple #[.agg (arn 384 (Y0j F c).1),.int .i64 (Y0j F c).2])∧Below w.heap.size w w'
theorem Ym1 (w:World):(Instr.build 62 #[]).run Tryz.prog w=.ok (.agg (arn 384 fun _=>0)) w:=run_build w _ #[] _ (by kernel_rfl)
set_option maxRecDepth 100000 in
set_option maxHeartbeats 2000000 in
theorem Ypi (fn:FuncId)(X:Array Value)(F:Nat→Nat→Int)(c:Cel)(p:Nat→Option Addr)(n k:Nat→Nat)(w:World)(hc:Yea w c p n)(hT:Yg6 w)(hS:Yb9 w)(hen:∀args x,(callFunc fn args).run Tryz.prog x=.ok (.enter fn args) x)(hg:Y1k fn X F w):
  Calls Tryz.prog 77 #[.agg (Ycd c fun i=>.slice (p i) (n i) (k i)).toArray,.func (.func fn) #[.agg X] #[]] w (Yl3 F c w):=by
 have hri:=fun x (hx:Below w.heap.size w x)=>Ygy true c p n k x (hc.below hx) (hT.below hx) (hS.below hx);obtain⟨A,hA⟩:∃A,(Ycd c fun i=>.slice (p i) (n i) (k i)).toArray=A:=⟨_,rfl⟩;have HSA:(Tryz.prog.info? 48).map (·.size)=some A.size:=hA▸Yd0 c _;obtain⟨Y,hY⟩:∃Y,(arn 384 fun _=>0)=Y:=⟨_,rfl⟩;have hz0:∀w,(zeroValue 62).run Tryz.prog w=.ok (.agg Y) w:=by rw[←hY];exact Ydl
 have hbz:∀w,(Instr.build 62 #[]).run Tryz.prog w=.ok (.agg Y) w:=by rw[←hY];exact Ym1
 have HSY:(Tryz.prog.info? 62).map (·.size)=some Y.size:=hY▸Ybr _;have HOY:Y.all (·.oneCell')=true:=hY▸Ybd _ _;have HYZ:Y.size=384:=by rw[←hY,Yan]
 obtain⟨B,wA,wB,hB,hwA,hwB,hzA,hzB,hC0,hC1,hbB⟩:=Yej w (.cells A 48 (0,0)) (.cells Y 62 (0,0));rw[hA] at hri ⊢;have RI:=Lib.hid (fun(x:World) (hx:Below (B+2) wB x)=>hri x (hB▸hbB.trans (hx.mono (by omega))));have TG:=Lib.hid (fun(b:Nat) (hb:b<6) (x:World) (hx:Below B w x)=>hg b hb x (hB▸hx));have HY:=Lib.hid hY;have HWA:=Lib.hid hwA;have HWB:=Lib.hid hwB;have HB:=Lib.hid hB;have HBW:=Lib.hid hbB
 have RG:=Lib.hid (show Y0j F c=if Ybi true c then (ptF F,0) else (fun _=>0,12) from rfl);clear hA hY hwA hwB hB hbB hri hg hc hT hS;generalize Ybi true c=ok at RI RG
 go_enter Tryz.func77,Tryz.ntmps77
 go_wp2_with (rw[HWA.out,HB.out,HWB.out];with_reducible refine wpList_load_row rfl 48 _ rfl B rfl 48 A (0,0) _ hC0 Tryz.underlying48 rfl HSA ?_)
 refine(RI.out _ (Below.refl _ _)).mono ?_;rintro e x1 ⟨rfl,hb1⟩;rw[hzB] at hb1;have hz1:=hb1.size;have d0:=(hb1.block B (by omega)).trans hC0;have d1:=(hb1.block (B+1) (by omega)).trans hC1;have hb2:Below B w x1:=HBW.out.trans (hb1.mono (by omega));clear hC0 hC1 hb1;cases ok with
 |false=>
  have F1:=Lib.hid (show Y0j F c=(fun _=>0,12) from RG.out.trans rfl)
  go_wp2_with (with_reducible refine Yae rfl 62 _ _ rfl (B+1) Y Y rfl rfl 62 d1 HSY rfl HOY ?_;intro w5 hh5 hg5)
  refine bodyPost_ret (Yao rfl _ _ (B+1) 62 _ (0,0) _ rfl hh5 Tryz.underlying62 rfl HSY) rfl ?_;exact⟨by rw[F1.out,HY.out];rfl,by rw[HB.out];exact hb2.grown hg5 (by omega) (fun k hk=>by injection hk with hk;omega)⟩
 |true=>
  have F1:=Lib.hid (show Y0j F c=(ptF F,0) from RG.out.trans rfl);obtain⟨D,hD⟩:∃D,x1.heap.size=D:=⟨_,rfl⟩;obtain⟨x2,hx2⟩:∃x2,x1.alloc (.cells Y 62 (0,0))=x2:=⟨_,rfl⟩;have k1:x2.heap[B+1]? =some (.cells Y 62 (0,0)):=by rw[←hx2];exact Yap d1
  have k2:x2.heap[D]? =some (Yc4 62 384 (Yii F (fun _ _=>0) 0)):=by
   rw[←hx2,←hD,Yi5,Yr9];refine(heap_alloc_new x1 _).trans ?_;rw[←HY.out]
   rfl
  have kb:Below B w x2:=by rw[←hx2];exact hb2.alloc (by omega) _
  have kz:D+1≤x2.heap.size:=by rw[←hx2];simp;omega
  have hDB:B+2≤D:=by omega
  have HX2:=Lib.hid hx2;have HD:=Lib.hid hD;clear hx2 hD d0 d1 hb2
  go_wp2
  rw[HX2.out,HD.out]
  go_loopw [12] (fun z wr=>∃i:Nat,i≤6∧z=.int .i64 i∧wr.heap[B+1]? =some (.cells Y 62 (0,0))∧wr.heap[D]? =some (Yc4 62 384 (Yii F (fun _ _=>0) i))∧Below B w wr∧D+1≤wr.heap.size) (fun z _=>6-(RowKit.intOf z).toNat)
  case atStart=>exact⟨0,by omega,rfl,k1,k2,kb,kz⟩
  case round=>
   clear k1 k2 kb kz hz1 hzB hzA;obtain⟨i,hi6,rfl,k1,k2,kb,kz⟩:=hrel;by_cases hlt:i<6
   ·have t0:decide ((i:Int)<6)=true:=by simp;omega
    have ct:=TG.out i hlt wr kb;obtain⟨V,hV⟩:∃V,Ybb (F i)=V:=⟨_,rfl⟩;unfold Ybq at ct;rw[hV] at ct;have HSV:(Tryz.prog.info? 60).map (·.size)=some V.size:=hV▸Yau _;have HV:=Lib.hid hV;clear hV
    go_wp2_with fail
    refine ct.mono ?_;rintro e x3 ⟨rfl,hb3⟩;have j1:=(hb3.block (B+1) (by omega)).trans k1;have j2:=(hb3.block D (by omega)).trans k2;have jb:Below B w x3:=kb.trans (hb3.mono (by omega));have jz:=Nat.le_trans kz hb3.size;clear k1 k2 kb kz hb3 ct
    go_wp2_with (refine Yey rfl 60 _ _ rfl D i _ (by omega) 62 F (fun _ _=>0) (F i) V HV.out rfl rfl j2 hlt (fun _ _=>rfl) HSV ?_;intro w5 hh5 hg5)
    have m1:=(hg5.block (B+1) (by omega) (by intro e;injection e with e;omega)).trans j1;have mb:Below B w w5:=jb.grown hg5 (by omega) (fun k hk=>by injection hk with hk;omega);have mz:=Nat.le_trans jz hg5.size
    go_roundw
    case rel=>exact⟨i+1,by omega,by go_num,m1,hh5.out,mb,mz⟩
    case measure=>simp[RowKit.intOf];omega
   ·obtain rfl:i=6:=by omega
    have t0:decide ((6:Int)<6)=false:=by simp
    obtain⟨V,hV⟩:∃V,arn 384 (ptF F)=V:=⟨_,rfl⟩;have k3:wr.heap[D]? =some (.cells V 62 (0,0)):=by rw[←hV,←Ymw F (fun _ _=>0)];exact k2
    have HSV:(Tryz.prog.info? 62).map (·.size)=some V.size:=hV▸Ybr _;have HOV:V.all (·.oneCell')=true:=hV▸Ybd _ _;have HYV:Y.size=V.size:=by rw[HYZ,←hV,Yan]
    have HV:=Lib.hid hV;clear hV k2
    go_wp2_with (first|(with_reducible refine wpList_load_row rfl 62 _ rfl D rfl 62 V (0,0) _ k3 Tryz.underlying62 rfl HSV ?_)|(with_reducible refine Yae rfl 62 _ _ rfl (B+1) V Y rfl rfl 62 k1 HSV HYV HOV ?_;intro w5 hh5 hg5))
    refine bodyPost_ret (Yao rfl _ _ (B+1) 62 _ (0,0) _ rfl hh5 Tryz.underlying62 rfl HSV) rfl ?_;exact⟨by rw[F1.out,←HV.out];rfl,by rw[HB.out];exact kb.grown hg5 (by omega) (fun k hk=>by injection hk with hk;omega)⟩
theorem Y0q:∀args x,(callFunc 78 args).run Tryz.prog x=.ok (.enter 78 args) x:=Yry Tryz.func78 (by kernel_rfl) rfl
set_option maxRecDepth 100000 in
set_option maxHeartbeats 2000000 in
theorem Ykq (a0 a1 a2 a3 a4 a5 a6 a7 a8 a9 a10 a11 a12 a13 a14 a15 a16 a17:Value)(q:Int)(V:Array Value)(er:Int)(w:World)(HSV:(Tryz.prog.info? 62).map (·.size)=some V.size)(HOV:V.all (·.oneCell')=true)
  (th:∀x,Below w.heap.size w x→Calls Tryz.prog 77 #[.agg #[a0,a1,a2,a3,a4,a5,a6,a7,a8,a9,a10,a11,a12,a13,a14,a15,a16,a17],.func (.func 78) #[.agg #[a0,a1,a2,a3,a4,a5,a6,a7,a8,a9,a10,a11,a12,a13,a14,a15,a16,a17,.int .i64 q]] #[]] x fun e y=>e=.returned (.tuple #[.agg V,.int .i64 er])∧Below x.heap.size x y):
  Calls Tryz.prog 52 #[.agg #[a0,a1,a2,a3,a4,a5,a6,a7,a8,a9,a10,a11,a12,a13,a14,a15,a16,a17],.int .i64 q] w fun e w'=>e=.returned (.tuple #[.agg V,.int .i64 er])∧Below w.heap.size w w':=by
 have HSA:(Tryz.prog.info? 48).map (·.size)=some #[a0,a1,a2,a3,a4,a5,a6,a7,a8,a9,a10,a11,a12,a13,a14,a15,a16,a17].size:=by kernel_rfl
 have hmf:∀(fn:Fn) (first cap:Array Value) (w:World),(Instr.makeFunc fn first cap).run Tryz.prog w=.ok (.func fn first cap) w:=fun _ _ _ _=>rfl;obtain⟨Y,hY⟩:∃Y,(arn 384 fun _=>0)=Y:=⟨_,rfl⟩;have hz0:∀w,(zeroValue 62).run Tryz.prog w=.ok (.agg Y) w:=by rw[←hY];exact Ydl
 have HYV:Y.size=V.size:=by
  have h1:=Yxo;rw[HSV] at h1;rw[←hY,Yan];injection h1 with h1;exact h1.symm
 obtain⟨B,wA,wB,hB,hwA,hwB,hzA,hzB,hC0,hC1,hbB⟩:=Yej w (.cells #[a0,a1,a2,a3,a4,a5,a6,a7,a8,a9,a10,a11,a12,a13,a14,a15,a16,a17] 48 (0,0)) (.cells Y 62 (0,0));have t1:=th wB (hB▸hbB);rw[hB];have HWA:=Lib.hid hwA;have HWB:=Lib.hid hwB;have HB:=Lib.hid hB;clear hY hwA hwB hB th
 go_enter Tryz.func52,Tryz.ntmps52
 go_wp2_with (first|(rw[HWA.out,HB.out,HWB.out];with_reducible refine wpList_load_row rfl 48 _ rfl B rfl 48 #[a0,a1,a2,a3,a4,a5,a6,a7,a8,a9,a10,a11,a12,a13,a14,a15,a16,a17] (0,0) _ hC0 Tryz.underlying48 rfl HSA ?_)|(with_reducible refine wpList_load_row rfl 48 _ rfl B rfl 48 #[a0,a1,a2,a3,a4,a5,a6,a7,a8,a9,a10,a11,a12,a13,a14,a15,a16,a17] (0,0) _ hC0 Tryz.underlying48 rfl HSA ?_))
 refine t1.mono ?_;rintro e x1 ⟨rfl,hb1⟩;rw[hzB] at hb1;have hz1:=hb1.size;have d1:=(hb1.block (B+1) (by omega)).trans hC1;have hb2:Below B w x1:=hbB.trans (hb1.mono (by omega))
 go_wp2_with (with_reducible refine Yae rfl 62 _ _ rfl (B+1) V Y rfl rfl 62 d1 HSV HYV HOV ?_;intro w5 hh5 hg5)
 refine bodyPost_ret (Yao rfl _ _ (B+1) 62 _ (0,0) _ rfl hh5 Tryz.underlying62 rfl HSV) rfl ?_;exact⟨rfl,hb2.grown hg5 (by omega) (fun k hk=>by injection hk with hk;omega)⟩
theorem Yw8 (c:Cel)(p:Nat→Option Addr)(n k:Nat→Nat)(q:Int)(w:World)(hc:Yea w c p n)(hT:Yg6 w)(hS:Yb9 w)(hP:Ycl w)(hD:Ydo w):
  Calls Tryz.prog 52 #[.agg (Ycd c fun i=>.slice (p i) (n i) (k i)).toArray,.int .i64 q] w (Yl3 (Yf2 c q) c w):=by
 refine Ykq _ _ _ _ _ _ _ _ _ _ _ _ _ _ _ _ _ _ q (arn 384 (Y0j (Yf2 c q) c).1) (Y0j (Yf2 c q) c).2 w (Ybr _) (Ybd _ _) fun x hx=>?_;exact Ypi 78 (Yt4 c (fun i=>.slice (p i) (n i) (k i)) q).toArray (Yf2 c q) c p n k x (hc.below hx) (hT.below hx) (hS.below hx) Y0q fun b hb y hy=>by
  have h2:Below w.heap.size w y:=hx.trans (hy.mono hx.size);exact Ym8 c p n k q b y hb (hc.below h2) (hP.below h2) (hD.below h2)
end Go.Proofs.YtnamlooifcpoaaaGreatDoor