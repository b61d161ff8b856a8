/- No condition. -/
import Derived.Test.YtndbeacoaimdgaaDoorQuantsGoMa
import Derived.Test.YtndbeacoaimdgaaDoorQuantsGoMbg
import Derived.Test.YtndbeacoaimdgaaDoorQuantsGoMbn
namespace Go.Proofs.YtndbeacoaimdgaaDoor
open Go.RowKit Go.Lib
theorem Yg8 {w x:World}{b N:Nat}(h:w.grownBy x (some b))(hN:N≤b)(hz:N≤w.heap.size):Below N w x:=
 ⟨h.os,h.tape,h.output,h.size,fun k hk=>h.block k (by omega) (fun e=>by injection e with e;omega)⟩
set_option maxRecDepth 100000 in
theorem Yd4 (c:Cel)(p:Nat→Option Addr)(n k:Nat→Nat)(w:World)(hc:Yf3 w c p n)(hT:Ydq w):Calls Tryd.prog 59 #[.agg (Ybe c fun i=>.slice (p i) (n i) (k i)).toArray] w fun e w'=>e=.returned (.bool (Ydr c))∧Below w.heap.size w w':=by
 have hput:=fun x (hx:Below w.heap.size w x)=>Yfa c p n k (x.heap.size+1) x.heap.size [] (x.alloc Ydn) (Ybw.fresh rfl (Nat.lt_succ_self _)) (by simp) (by simp) (fun y hy=>by
  have h1:=hx.trans ((((Below.refl _ x).alloc (Nat.le_refl _) Ydn).trans (Yg8 hy (Nat.le_refl _) (by simp))).mono hx.size);exact⟨hT.below h1,hc.below h1⟩)
 obtain⟨A,hA,-,-,-,-,-,-,-,-⟩:=Ybk c fun i=>.slice (p i) (n i) (k i);obtain⟨R,w0,hR,hw0,hz0,hb0,HSZ,hbx⟩:=Yci w hA;rw[hA];obtain⟨ev,hev⟩:∃ev:Int,(if Ydr c=true then 0 else 7)=ev:=⟨_,rfl⟩;have HEV:Hid ((ev==0)=Ydr c):=Lib.hid (by rw[←hev];cases Ydr c <;> rfl)
 have HPUT:Hid (∀x,(Below R w x∧x.heap[R]? =some (.cells A 42 (0,0)))→Calls Tryd.prog 75 #[.pointer (some ⟨x.heap.size,0,none⟩),.agg A] (x.alloc Ydn) fun e y=>e=.returned (.int .i64 ev)∧Below R w y∧y.heap[R]? =some (.cells A 42 (0,0))):=Lib.hid (by
  intro x hx;have h1:=hput x (by rw[hR];exact hx.1);rw[hA] at h1;refine h1.mono ?_;rintro e y ⟨i,_,_,hg,h2⟩;have h3:Below x.heap.size x y:=((Below.refl _ x).alloc (Nat.le_refl _) Ydn).trans (Yg8 hg (Nat.le_refl _) (by simp));refine⟨?_,hx.1.trans (h3.mono (by have:=hx.1.size;omega)),(h3.block R (Array.getElem?_eq_some_iff.1 hx.2).1).trans hx.2⟩;rcases h2 with ⟨_,h4,rfl⟩|⟨h4,rfl⟩
  ·rw[←hev,h4];rfl
  ·rw[←hev,h4];rfl)
 have hbx0:=(hbx w0 (Below.refl _ _)).1;have HW:=Lib.hid hw0;have HR:=Lib.hid hR;clear hA hw0 hR hbx hput hc hT hev;generalize Ydr c=bb at *
 go_enter Tryd.func59,Tryd.ntmps59
 go_wp2
 rw[HW.out,HR.out];refine wp_region_held_drew (S:=fun x=>Below R w x∧x.heap[R]? =some (.cells A 42 (0,0))) (by kernel_rfl) ⟨hb0.drew,hbx0⟩ (fun hH=>?_)
 refine Yag 1 (some 4) (v:=.agg A) rfl rfl (by kernel_rfl) (by kernel_rfl) (by kernel_rfl) (fun _ _ _ h=>h) hH (Or.inl ⟨by kernel_rfl,fun x hx=>Ya0 (ty:=42) (x:=.tmp 1) (ad:=⟨R,0,none⟩) (by kernel_rfl) (by kernel_rfl) (run_loadVar_row x (R) _ _ A (0,0) _ (hx.2) Tryd.underlying42 rfl HSZ)⟩) ?_
 try simp only[Yaa]
 refine wpAnyH_ready (rs:=[0]) (by kernel_rfl) (by simp) ?_;refine AllReadyH.cons rfl (fun K hK=>?_) AllReadyH.nil
 go_simp
 go_wp2_with fail
 obtain⟨x0,hx0⟩:∃x0,w0.drew=x0:=⟨_,rfl⟩;rw[hx0] at hH ⊢;have hxz:R<x0.heap.size:=by rw[←hx0];show R<w0.heap.size;omega
 have hX:=hH;refine(Yiy _).mono ?_;rintro e w2 ⟨rfl,rfl⟩;refine hK.out _ _ (⟨hH.1.alloc (Nat.le_of_lt hxz) _,Ydm hH.2⟩) (fun hH2=>?_);clear hK K hH;have hH:=hH2;clear hH2
 try simp only[Yaa]
 refine wpAnyH_ready (rs:=[2]) (by kernel_rfl) (by simp) ?_;refine AllReadyH.cons rfl (fun K hK=>?_) AllReadyH.nil
 go_simp
 go_wp2_with fail
 refine(HPUT.out x0 hX).mono ?_;rintro e w3 ⟨rfl,hb3,hk3⟩;refine hK.out _ _ (⟨hb3,hk3⟩) (fun hH2=>?_);clear hK K hH;have hH:=hH2;clear hH2
 try simp only[Yaa]
 refine Yah 3 (some 6) hH ?_
 try simp only[Yaa]
 refine Yah 4 (some 2) hH ?_
 try simp only[Yaa]
 refine wpAnyH_done (by kernel_rfl) ?_ _
 go_wp2
 go_ret
 exact⟨Yad HEV.out,by rw[HR.out];exact hH.1⟩
set_option maxRecDepth 100000 in
theorem Yem (inter:Bool)(c:Cel)(p:Nat→Option Addr)(n k:Nat→Nat)(w:World)(hc:Yf3 w c p n)(hT:Ydq w)(hS:Yay w):Calls Tryd.prog 43 #[.bool inter,.agg (Ybe c fun i=>.slice (p i) (n i) (k i)).toArray] w fun e w'=>e=.returned (.bool (Ybf inter c))∧Below w.heap.size w w':=by
 have hba:=fun x (hx:Below w.heap.size w x)=>Yia c p n k x (hc.below hx);have hki:=fun x=>Yfb inter c.kind x;have hst:=fun x (hx:Below w.heap.size w x)=>Yfc c (fun i=>.slice (p i) (n i) (k i)) x (hS.below hx);have hve:=fun x=>Yd5 c (fun i=>.slice (p i) (n i) (k i)) x;have hbl:=fun x (hx:Below w.heap.size w x)=>Yd4 c p n k x (hc.below hx) (hT.below hx)
 have ZC:Hid (Ybf inter c=((decide (0≤c.stuff)&&decide (c.stuff≤64))&&(if c.skip then inter&&Yh3 c else (Yhe inter c.kind&&Yim c.kind c.step)&&(Ykk c.kind c.mx c.my&&Ydr c)))):=Lib.hid rfl;obtain⟨A,hA,f0,f1,f2,f3,f4,f5,-,-⟩:=Ybk c fun i=>.slice (p i) (n i) (k i);obtain⟨R,w0,hR,hw0,hz0,hb0,HSZ,hbx⟩:=Yci w hA;simp only[hA] at hba hst hve hbl;rw[hR] at hba hst hbl;rw[hA];have HW:=Lib.hid hw0
 have HR:=Lib.hid hR;have HBX:=Lib.hid hbx;have HBA:=Lib.hid hba;have HST:=Lib.hid hst;have HBL:=Lib.hid hbl;clear hA hw0 hR hbx hba hst hbl hc hT hS;generalize Ybf inter c=z at *;generalize Yh3 c=zb at *;generalize Yim c.kind c.step=sb at *;generalize Ykk c.kind c.mx c.my=vb at *;generalize Ydr c=bb at *;by_cases h0:c.stuff<0
 ·have t0:decide (c.stuff<0)=true:=decide_eq_true h0;have Z:=Lib.hid (show z=false by rw[ZC.out,decide_eq_false (by omega:¬ 0≤c.stuff)];rfl);clear h0 ZC
  go_enter Tryd.func43,Tryd.ntmps43
  go_wp2
  go_ret
  exact⟨Yad Z.out.symm,by rw[HW.out,HR.out];exact hb0⟩
 by_cases h1:64<c.stuff
 ·have t0:decide (c.stuff<0)=false:=decide_eq_false h0;have t1:decide (64<c.stuff)=true:=decide_eq_true h1;have Z:=Lib.hid (show z=false by rw[ZC.out,decide_eq_false (by omega:¬ c.stuff≤64),Bool.and_false];rfl);clear h0 h1 ZC
  go_enter Tryd.func43,Tryd.ntmps43
  go_wp2
  go_ret
  exact⟨Yad Z.out.symm,by rw[HW.out,HR.out];exact hb0⟩
 have t0:decide (c.stuff<0)=false:=decide_eq_false h0;have t1:decide (64<c.stuff)=false:=decide_eq_false h1;rw[decide_eq_true (by omega:0≤c.stuff),decide_eq_true (by omega:c.stuff≤64)] at ZC;clear h0 h1;cases hsk:c.skip with
 |true=>
  rw[hsk] at ZC f1;cases inter with
  |false=>
   have Z:=Lib.hid (show z=false by rw[ZC.out];rfl)
   go_enter Tryd.func43,Tryd.ntmps43
   go_wp2
   go_ret
   exact⟨Yad Z.out.symm,by rw[HW.out,HR.out];exact hb0⟩
  |true=>
   have Z:=Lib.hid (show z=zb by rw[ZC.out];rfl)
   go_enter Tryd.func43,Tryd.ntmps43
   go_wp2_with (with_reducible refine Yan (by kernel_rfl) 42 _ rfl w.heap.size rfl 42 A (0,0) _ (heap_alloc_new w _) Tryd.underlying42 rfl HSZ ?_)
   rw[HW.out,HR.out];refine(HBA.out _ hb0).mono ?_;rintro e w1 ⟨rfl,hb1⟩;have hb2:=hb0.trans (hb1.mono (by omega))
   go_wp2
   go_ret
   exact⟨Yad Z.out.symm,by rw[HR.out];exact hb2⟩
 |false=>
  rw[hsk] at ZC f1;have Z:=Lib.hid (show z=(Yhe inter c.kind&&sb&&(vb&&bb)) by rw[ZC.out];rfl);clear ZC;generalize Yhe inter c.kind=kb at *
  go_enter Tryd.func43,Tryd.ntmps43
  go_wp2_with fail
  rw[HW.out,HR.out];refine(hki _).mono ?_;rintro e w1 ⟨rfl,rfl⟩;obtain⟨g1,g2⟩:=HBX.out _ (Below.refl _ _);cases kb with
  |false=>
   go_wp2
   go_ret
   exact⟨Yad (by rw[Z.out];rfl),by rw[HR.out];exact hb0⟩
  |true=>
   go_wp2_with (with_reducible refine Yan (by kernel_rfl) 42 _ rfl R rfl 42 A (0,0) _ g1 Tryd.underlying42 rfl HSZ ?_)
   refine(HST.out _ hb0).mono ?_;rintro e w1 ⟨rfl,hb1⟩;have hb2:=hb0.trans (hb1.mono (by omega));have hz1:=hb1.size;have g1:=(HBX.out _ (hb1.mono (by omega))).1;cases sb with
   |false=>
    go_wp2
    go_ret
    exact⟨Yad (by rw[Z.out];rfl),by rw[HR.out];exact hb2⟩
   |true=>
    go_wp2_with (with_reducible refine Yan (by kernel_rfl) 42 _ rfl R rfl 42 A (0,0) _ g1 Tryd.underlying42 rfl HSZ ?_)
    refine(hve _).mono ?_;rintro e w2 ⟨rfl,hb3⟩;have hb4:=hb2.trans (hb3.mono (by omega));have hz2:=hb3.size;have g1:=(HBX.out _ ((hb1.trans (hb3.mono hz1)).mono (by omega))).1;cases vb with
    |false=>
     go_wp2
     go_ret
     exact⟨Yad (by rw[Z.out];rfl),by rw[HR.out];exact hb4⟩
    |true=>
     go_wp2_with (with_reducible refine Yan (by kernel_rfl) 42 _ rfl R rfl 42 A (0,0) _ g1 Tryd.underlying42 rfl HSZ ?_)
     refine(HBL.out _ hb4).mono ?_;rintro e w3 ⟨rfl,hb5⟩;have hb6:=hb4.trans (hb5.mono (by omega))
     go_wp2
     go_ret
     exact⟨Yad (by rw[Z.out];rfl),by rw[HR.out];exact hb6⟩
end Go.Proofs.YtndbeacoaimdgaaDoor