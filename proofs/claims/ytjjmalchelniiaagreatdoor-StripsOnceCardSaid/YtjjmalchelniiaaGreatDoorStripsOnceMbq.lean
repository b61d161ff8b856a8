/- Part 43 of StripsOnce. No condition. -/
import Derived.Test.YtjjmalchelniiaaGreatDoorStripsOnceMa
import Derived.Test.YtjjmalchelniiaaGreatDoorStripsOnceMu
import Derived.Test.YtjjmalchelniiaaGreatDoorStripsOnceMba
import Derived.Test.YtjjmalchelniiaaGreatDoorStripsOnceMbp
namespace Go.Proofs.YtjjmalchelniiaaGreatDoor
open Go.RowKit Go.Lib
theorem Yew {w x:World}{b N:Nat}(h:w.grownBy x (some b))(hN:N≤b)(hz:N≤w.heap.size):Below N w x:=
 ⟨h.os,h.tape,h.output,h.size,fun k hk=>h.block k (by omega) (fun e=>by injection e with e;omega)⟩
set_option maxRecDepth 100000 in
theorem Ym0 (c:Cel)(p:Nat→Option Addr)(n k:Nat→Nat)(w:World)(hc:Ymt w c p n)(hT:Ye6 w):Calls Tryz.prog 119 #[.agg (Ybd c fun i=>.slice (p i) (n i) (k i)).toArray] w fun e w'=>e=.returned (.bool (Yjg c))∧Below w.heap.size w w':=by
 have hput:=fun x (hx:Below w.heap.size w x)=>Yi7 c p n k (x.heap.size+1) x.heap.size [] (x.alloc Yi0) (Ycj.fresh rfl (Nat.lt_succ_self _)) (by simp) (by simp) (fun y hy=>by
  have h1:=hx.trans ((((Below.refl _ x).alloc (Nat.le_refl _) Yi0).trans (Yew hy (Nat.le_refl _) (by simp))).mono hx.size);exact⟨hT.below h1,hc.below h1⟩)
 obtain⟨A,hA,-,-,-,-,-,-,-,-⟩:=Yeq c fun i=>.slice (p i) (n i) (k i);obtain⟨R,w0,hR,hw0,hz0,hb0,HSZ,hbx⟩:=Yhq w hA;rw[hA];obtain⟨ev,hev⟩:∃ev:Int,(if Yjg c=true then 0 else 7)=ev:=⟨_,rfl⟩;have HEV:Hid ((ev==0)=Yjg c):=Lib.hid (by rw[←hev];cases Yjg c <;> rfl)
 have HPUT:Hid (∀x,(Below R w x∧x.heap[R]? =some (.cells A 77 (0,0)))→Calls Tryz.prog 153 #[.pointer (some ⟨x.heap.size,0,none⟩),.agg A] (x.alloc Yi0) fun e y=>e=.returned (.int .i64 ev)∧Below R w y∧y.heap[R]? =some (.cells A 77 (0,0))):=Lib.hid (by
  intro x hx;have h1:=hput x (by rw[hR];exact hx.1);rw[hA] at h1;refine h1.mono ?_;rintro e y ⟨i,_,_,hg,h2⟩;have h3:Below x.heap.size x y:=((Below.refl _ x).alloc (Nat.le_refl _) Yi0).trans (Yew hg (Nat.le_refl _) (by simp));refine⟨?_,hx.1.trans (h3.mono (by have:=hx.1.size;omega)),(h3.block R (Array.getElem?_eq_some_iff.1 hx.2).1).trans hx.2⟩;rcases h2 with ⟨_,h4,rfl⟩|⟨h4,rfl⟩
  ·rw[←hev,h4];rfl
  ·rw[←hev,h4];rfl)
 have hbx0:=(hbx w0 (Below.refl _ _)).1;have HW:=Lib.hid hw0;have HR:=Lib.hid hR;clear hA hw0 hR hbx hput hc hT hev;generalize Yjg c=bb at *
 go_enter Tryz.func119,Tryz.ntmps119
 go_wp2
 rw[HW.out,HR.out];refine wp_region_held_drew (S:=fun x=>Below R w x∧x.heap[R]? =some (.cells A 77 (0,0))) (by kernel_rfl) ⟨hb0.drew,hbx0⟩ (fun hH=>?_)
 refine Yaw 1 (some 4) (v:=.agg A) rfl rfl (by kernel_rfl) (by kernel_rfl) (by kernel_rfl) (fun _ _ _ h=>h) hH (Or.inl ⟨by kernel_rfl,fun x hx=>Ybw (ty:=77) (x:=.tmp 1) (ad:=⟨R,0,none⟩) (by kernel_rfl) (by kernel_rfl) (run_loadVar_row x (R) _ _ A (0,0) _ (hx.2) Tryz.underlying77 rfl HSZ)⟩) ?_
 try simp only[Yaa]
 refine wpAnyH_ready (rs:=[0]) (by kernel_rfl) (by simp) ?_;refine AllReadyH.cons rfl (fun K hK=>?_) AllReadyH.nil
 go_simp
 go_wp2_with fail
 obtain⟨x0,hx0⟩:∃x0,w0.drew=x0:=⟨_,rfl⟩;rw[hx0] at hH ⊢;have hxz:R<x0.heap.size:=by rw[←hx0];show R<w0.heap.size;omega
 have hX:=hH;refine(Yne _).mono ?_;rintro e w2 ⟨rfl,rfl⟩;refine hK.out _ _ (⟨hH.1.alloc (Nat.le_of_lt hxz) _,Ybc hH.2⟩) (fun hH2=>?_);clear hK K hH;have hH:=hH2;clear hH2
 try simp only[Yaa]
 refine wpAnyH_ready (rs:=[2]) (by kernel_rfl) (by simp) ?_;refine AllReadyH.cons rfl (fun K hK=>?_) AllReadyH.nil
 go_simp
 go_wp2_with fail
 refine(HPUT.out x0 hX).mono ?_;rintro e w3 ⟨rfl,hb3,hk3⟩;refine hK.out _ _ (⟨hb3,hk3⟩) (fun hH2=>?_);clear hK K hH;have hH:=hH2;clear hH2
 try simp only[Yaa]
 refine Yah 3 (some 6) hH ?_
 try simp only[Yaa]
 refine Yah 4 (some 2) hH ?_
 try simp only[Yaa]
 refine wpAnyH_done (by kernel_rfl) ?_ _
 go_wp2
 go_ret
 exact⟨Yan HEV.out,by rw[HR.out];exact hH.1⟩
set_option maxRecDepth 100000 in
theorem Yn8 (inter:Bool)(c:Cel)(p:Nat→Option Addr)(n k:Nat→Nat)(w:World)(hc:Ymt w c p n)(hT:Ye6 w)(hS:Ycn w):Calls Tryz.prog 82 #[.bool inter,.agg (Ybd c fun i=>.slice (p i) (n i) (k i)).toArray] w fun e w'=>e=.returned (.bool (Ybp inter c))∧Below w.heap.size w w':=by
 have hba:=fun x (hx:Below w.heap.size w x)=>Yzs c p n k x (hc.below hx);have hki:=fun x=>Yqr inter c.kind x;have hst:=fun x (hx:Below w.heap.size w x)=>Yqs c (fun i=>.slice (p i) (n i) (k i)) x (hS.below hx);have hve:=fun x=>Ym1 c (fun i=>.slice (p i) (n i) (k i)) x;have hbl:=fun x (hx:Below w.heap.size w x)=>Ym0 c p n k x (hc.below hx) (hT.below hx)
 have ZC:Hid (Ybp inter c=((decide (0≤c.stuff)&&decide (c.stuff≤64))&&(if c.skip then inter&&Yp7 c else (Ykm inter c.kind&&Yqt c.kind c.step)&&(Ym4 c.kind c.mx c.my&&Yjg c)))):=Lib.hid rfl;obtain⟨A,hA,f0,f1,f2,f3,f4,f5,-,-⟩:=Yeq c fun i=>.slice (p i) (n i) (k i);obtain⟨R,w0,hR,hw0,hz0,hb0,HSZ,hbx⟩:=Yhq w hA;simp only[hA] at hba hst hve hbl;rw[hR] at hba hst hbl;rw[hA];have HW:=Lib.hid hw0
 have HR:=Lib.hid hR;have HBX:=Lib.hid hbx;have HBA:=Lib.hid hba;have HST:=Lib.hid hst;have HBL:=Lib.hid hbl;clear hA hw0 hR hbx hba hst hbl hc hT hS;generalize Ybp inter c=z at *;generalize Yp7 c=zb at *;generalize Yqt c.kind c.step=sb at *;generalize Ym4 c.kind c.mx c.my=vb at *;generalize Yjg c=bb at *;by_cases h0:c.stuff<0
 ·have t0:decide (c.stuff<0)=true:=decide_eq_true h0;have Z:=Lib.hid (show z=false by rw[ZC.out,decide_eq_false (by omega:¬ 0≤c.stuff)];rfl);clear h0 ZC
  go_enter Tryz.func82,Tryz.ntmps82
  go_wp2
  go_ret
  exact⟨Yan Z.out.symm,by rw[HW.out,HR.out];exact hb0⟩
 by_cases h1:64<c.stuff
 ·have t0:decide (c.stuff<0)=false:=decide_eq_false h0;have t1:decide (64<c.stuff)=true:=decide_eq_true h1;have Z:=Lib.hid (show z=false by rw[ZC.out,decide_eq_false (by omega:¬ c.stuff≤64),Bool.and_false];rfl);clear h0 h1 ZC
  go_enter Tryz.func82,Tryz.ntmps82
  go_wp2
  go_ret
  exact⟨Yan Z.out.symm,by rw[HW.out,HR.out];exact hb0⟩
 have t0:decide (c.stuff<0)=false:=decide_eq_false h0;have t1:decide (64<c.stuff)=false:=decide_eq_false h1;rw[decide_eq_true (by omega:0≤c.stuff),decide_eq_true (by omega:c.stuff≤64)] at ZC;clear h0 h1;cases hsk:c.skip with
 |true=>
  rw[hsk] at ZC f1;cases inter with
  |false=>
   have Z:=Lib.hid (show z=false by rw[ZC.out];rfl)
   go_enter Tryz.func82,Tryz.ntmps82
   go_wp2
   go_ret
   exact⟨Yan Z.out.symm,by rw[HW.out,HR.out];exact hb0⟩
  |true=>
   have Z:=Lib.hid (show z=zb by rw[ZC.out];rfl)
   go_enter Tryz.func82,Tryz.ntmps82
   go_wp2_with (with_reducible refine Yb6 (by kernel_rfl) 77 _ rfl w.heap.size rfl 77 A (0,0) _ (heap_alloc_new w _) Tryz.underlying77 rfl HSZ ?_)
   rw[HW.out,HR.out];refine(HBA.out _ hb0).mono ?_;rintro e w1 ⟨rfl,hb1⟩;have hb2:=hb0.trans (hb1.mono (by omega))
   go_wp2
   go_ret
   exact⟨Yan Z.out.symm,by rw[HR.out];exact hb2⟩
 |false=>
  rw[hsk] at ZC f1;have Z:=Lib.hid (show z=(Ykm inter c.kind&&sb&&(vb&&bb)) by rw[ZC.out];rfl);clear ZC;generalize Ykm inter c.kind=kb at *
  go_enter Tryz.func82,Tryz.ntmps82
  go_wp2_with fail
  rw[HW.out,HR.out];refine(hki _).mono ?_;rintro e w1 ⟨rfl,rfl⟩;obtain⟨g1,g2⟩:=HBX.out _ (Below.refl _ _);cases kb with
  |false=>
   go_wp2
   go_ret
   exact⟨Yan (by rw[Z.out];rfl),by rw[HR.out];exact hb0⟩
  |true=>
   go_wp2_with (with_reducible refine Yb6 (by kernel_rfl) 77 _ rfl R rfl 77 A (0,0) _ g1 Tryz.underlying77 rfl HSZ ?_)
   refine(HST.out _ hb0).mono ?_;rintro e w1 ⟨rfl,hb1⟩;have hb2:=hb0.trans (hb1.mono (by omega));have hz1:=hb1.size;have g1:=(HBX.out _ (hb1.mono (by omega))).1;cases sb with
   |false=>
    go_wp2
    go_ret
    exact⟨Yan (by rw[Z.out];rfl),by rw[HR.out];exact hb2⟩
   |true=>
    go_wp2_with (with_reducible refine Yb6 (by kernel_rfl) 77 _ rfl R rfl 77 A (0,0) _ g1 Tryz.underlying77 rfl HSZ ?_)
    refine(hve _).mono ?_;rintro e w2 ⟨rfl,hb3⟩;have hb4:=hb2.trans (hb3.mono (by omega));have hz2:=hb3.size;have g1:=(HBX.out _ ((hb1.trans (hb3.mono hz1)).mono (by omega))).1;cases vb with
    |false=>
     go_wp2
     go_ret
     exact⟨Yan (by rw[Z.out];rfl),by rw[HR.out];exact hb4⟩
    |true=>
     go_wp2_with (with_reducible refine Yb6 (by kernel_rfl) 77 _ rfl R rfl 77 A (0,0) _ g1 Tryz.underlying77 rfl HSZ ?_)
     refine(HBL.out _ hb4).mono ?_;rintro e w3 ⟨rfl,hb5⟩;have hb6:=hb4.trans (hb5.mono (by omega))
     go_wp2
     go_ret
     exact⟨Yan (by rw[Z.out];rfl),by rw[HR.out];exact hb6⟩
def Yi1 (inter:Bool)(x y:Int)(c:Cel):List ByteArray:=
 ⟨(Yfz inter c.stuff.toNat).toArray⟩::(if c.skip then [⟨#[49]⟩,⟨#[]⟩,⟨#[]⟩,⟨#[]⟩,⟨#[]⟩,⟨#[]⟩] else
  [⟨(Qb4 inter).toArray⟩,Yby inter c.kind (Ykd c:Nat),Yf2 (Yas c.kind) (Yfw c 4:Nat),Yb8 c.step]++(if Yas c.kind then [⟨#[]⟩,⟨#[]⟩] else [Ybz (Yca (c.mx-Yca x)),Ybz (Yca (c.my-Yca y))]))
def bgS:Bool→ByteArray
 |true=>⟨#[48]⟩
 |false=>⟨#[]⟩
def Qb6:List ByteArray:=[⟨#[]⟩,⟨#[]⟩,⟨#[]⟩,⟨#[]⟩,⟨#[]⟩,⟨#[]⟩,⟨#[]⟩]
structure Qg0 (w wr:World) (R:Nat) (x y:Int) (A:Array Value) (l:List Value):Prop where
 below:Below R w wr
 pred:wr.heap[R]? =some (.cells [.int .i64 x,.int .i64 y].toArray 73 (0,0))
 cel:wr.heap[R+1]? =some (.cells A 77 (0,0))
 res:wr.heap[R+1+1]? =some (.cells (Qb6.map Value.string).toArray 189 (0,0))
 rows:wr.heap[R+1+1+1]? =some (.cells l.toArray 189 (0,0))
 size:R+4≤wr.heap.size
section
variable {w wr z:World}{R:Nat}{x y:Int}{A:Array Value}{l l':List Value}
theorem Qg0.move (h:Qg0 w wr R x y A l)(hb:Below wr.heap.size wr z):Qg0 w z R x y A l:=
 ⟨h.below.trans (hb.mono (by have:=h.size;omega)),(hb.block _ (by have:=h.size;omega)).trans h.pred,(hb.block _ (by have:=h.size;omega)).trans h.cel,(hb.block _ (by have:=h.size;omega)).trans h.res,(hb.block _ (by have:=h.size;omega)).trans h.rows,Nat.le_trans h.size hb.size⟩
theorem Qg0.set (h:Qg0 w wr R x y A l)(o:Nat)(v:Value):Qg0 w (wr.setCell ⟨R+1+1+1,o,none⟩ v) R x y A (l.set o v):=by
 have hb:Below (R+1+1+1) wr (wr.setCell ⟨R+1+1+1,o,none⟩ v):=⟨rfl,rfl,rfl,by simp[World.setCell],fun k hk=>Below.heap_setCell _ _ _ _ (by simp;omega)⟩;exact⟨h.below.trans (hb.mono (by omega)),(hb.block _ (by omega)).trans h.pred,(hb.block _ (by omega)).trans h.cel,(hb.block _ (by omega)).trans h.res,Yau (o:=o) v h.rows,Nat.le_trans h.size hb.size⟩
end
theorem Yo7 (inter:Bool)(x y:Int)(c:Cel):(Yi1 inter x y c).length=7:=by
 unfold Yi1;cases c.skip <;> cases Yas c.kind <;> rfl
theorem Y88:∀m,m<64→bits .and .i64 ((m:Nat):Int) 3=((m%4:Nat):Int):=by decide +kernel
set_option maxRecDepth 100000 in
set_option maxHeartbeats 4000000 in
theorem Y41 (inter:Bool)(x y:Int)(c:Cel)(p:Nat→Option Addr)(n k:Nat→Nat)(w:World)(hc:Ymt w c p n)(ht:Ybh w.heap.size w)(hm:Ybp inter c=true):
  Calls Tryz.prog 167 #[.bool inter,.agg #[.int .i64 x,.int .i64 y],.agg (Ybd c fun i=>.slice (p i) (n i) (k i)).toArray] w fun e w'=>e=.returned (.agg ((Yi1 inter x y c).map Value.string).toArray)∧Below w.heap.size w w':=by
 obtain⟨R,hR⟩:∃R,w.heap.size=R:=⟨_,rfl⟩;have hmm:=hm;unfold Ybp at hm;rw[Bool.and_eq_true,Bool.and_eq_true,decide_eq_true_iff,decide_eq_true_iff] at hm;obtain⟨hst,hm2⟩:=hm;obtain⟨ns,hns⟩:∃ns:Nat,c.stuff=(ns:Int):=⟨c.stuff.toNat,by omega⟩;have hrow5:=fun z=>Yws inter 5 0 z;have h59:(Yby inter 5 0).size≤9:=(Yh7 inter 5 0).2
 have hrep:=fun z=>Qez inter ns (bgS inter++Yby inter 5 0) z (by cases inter <;> decide +kernel) (by omega);obtain⟨cl1,cl2,cl3⟩:=Y7x c;have hband:bits .and .i64 ((Yfw c 6:Nat):Int) 3=((Ykd c:Nat):Int):=by rw[Y88 _ cl3,Ytb,show (4*Yfw c 4+Ykd c)%4=Ykd c by omega]
 have hshr:((Yfw c 6:Nat):Int) / 2^2=((Yfw c 4:Nat):Int):=by have:=Ytb c;omega
 obtain⟨A,hA,f0,f1,f2,f3,f4,f5,-,-⟩:=Yeq c fun i=>.slice (p i) (n i) (k i);have hcod:∀z,Below R w z→Calls Tryz.prog 149 #[.agg A] z fun e w'=>e=.returned (.int .i64 (Yfw c 6:Nat))∧Below z.heap.size z w':=fun z hz=>hA▸Yvs c p n k z (hc.below (hR▸hz));have hint:∀z,Calls Tryz.prog 151 #[.agg A] z fun e w'=>e=.returned (.bool (Yas c.kind))∧Below z.heap.size z w':=fun z=>hA▸Yhy c _ z
 have hrowk:∀z,Calls Tryz.prog 184 #[.bool inter,.int .i64 c.kind,.int .i64 (bits .and .i64 ((Yfw c 6:Nat):Int) 3)] z fun e w'=>e=.returned (.tuple #[.string (Yby inter c.kind (Ykd c:Nat)),.bool (!(Yby inter c.kind (Ykd c:Nat)).data.toList.isEmpty)])∧Below z.heap.size z w':=fun z=>by rw[hband];exact Yws inter c.kind _ z
 have hpat:∀z,Below R w z→Calls Tryz.prog 186 #[.bool (Yas c.kind),.int .i64 (((Yfw c 6:Nat):Int) / 2^2)] z fun e w'=>e=.returned (.tuple #[.string (Yf2 (Yas c.kind) (Yfw c 4:Nat)),.bool (!(Yf2 (Yas c.kind) (Yfw c 4:Nat)).data.toList.isEmpty)])∧Below z.heap.size z w':=fun z hz=>by rw[hshr];exact Y96 _ _ z (Ybh.below (hR▸ht) hz).pats
 have hstp:∀z,Below R w z→Calls Tryz.prog 150 #[.int .i64 c.step] z fun e w'=>e=.returned (.tuple #[.string (Yb8 c.step),.bool (!(Yb8 c.step).data.toList.isEmpty)])∧Below z.heap.size z w':=fun z hz=>Yxn c.step z (Ybh.below (hR▸ht) hz).steps
 have hdr:∀d z,Below R w z→Calls Tryz.prog 188 #[.int .i64 d] z fun e w'=>e=.returned (.tuple #[.string (Ybz d),.bool (!(Ybz d).data.toList.isEmpty)])∧Below z.heap.size z w':=fun d z hz=>Y8f d z (Ybh.below (hR▸ht) hz).mvd
 have hdif:Yas c.kind=false→c.skip=false→∀z,Calls Tryz.prog 187 #[.agg #[.int .i64 c.mx,.int .i64 c.my],.agg #[.int .i64 x,.int .i64 y]] z fun e w'=>e=.returned (.agg #[.int .i64 (Yca (c.mx-Yca x)),.int .i64 (Yca (c.my-Yca y))])∧Below z.heap.size z w':=fun hk hs z=>by
  rw[hs,if_neg (by decide),Bool.and_eq_true,Bool.and_eq_true,Bool.and_eq_true] at hm2;have hv:=hm2.2.1;unfold Ym4 at hv;rw[hk,if_neg (by decide),Bool.and_eq_true,beq_iff_eq,beq_iff_eq] at hv;exact Yob c.mx c.my x y z (Yk4.1 hv.1) (Yk4.1 hv.2)
 have PL:=Lib.hid (show Yi1 inter x y c=⟨(Yfz inter ns).toArray⟩::(if c.skip then [⟨#[49]⟩,⟨#[]⟩,⟨#[]⟩,⟨#[]⟩,⟨#[]⟩,⟨#[]⟩] else
  [bgS inter,Yby inter c.kind (Ykd c:Nat),Yf2 (Yas c.kind) (Yfw c 4:Nat),Yb8 c.step]++(if Yas c.kind then [⟨#[]⟩,⟨#[]⟩] else [Ybz (Yca (c.mx-Yca x)),Ybz (Yca (c.my-Yca y))])) by
   unfold Yi1;rw[hns,Int.toNat_natCast];cases inter <;> rfl)
 obtain⟨V,hV⟩:∃V,((Yi1 inter x y c).map Value.string).toArray=V:=⟨_,rfl⟩;have hVs:V.size=7:=by rw[←hV];simp[Yo7]
 have HSV:(Tryz.prog.info? 189).map (·.size)=some V.size:=by rw[hVs];kernel_rfl
 have HOV:V.all (·.oneCell')=true:=by rw[←hV];simp[Value.oneCell']
 have HYV:((Qb6.map Value.string).toArray).size=V.size:=by rw[hVs];rfl
 have HVV:=Lib.hid hV;have hst0:Qg0 w ((((w.alloc (.cells #[.int .i64 x,.int .i64 y] 73 (0,0))).alloc (.cells A 77 (0,0))).alloc (.cells (Qb6.map Value.string).toArray 189 (0,0))).alloc (.cells (Qb6.map Value.string).toArray 189 (0,0))) R x y A (Qb6.map Value.string):=by
  refine⟨?_,?_,?_,?_,?_,?_⟩
  ·exact((((Below.refl R w).alloc (Nat.le_of_eq hR.symm) _).alloc (by simp;omega) _).alloc (by simp;omega) _).alloc (by simp;omega) _
  ·rw[←hR];exact Ybc (Ybc (Ybc (heap_alloc_new w _)))
  ·rw[←hR];exact Ybc (Ybc (by simpa using heap_alloc_new (w.alloc (.cells #[.int .i64 x,.int .i64 y] 73 (0,0))) (.cells A 77 (0,0))))
  ·rw[←hR];exact Ybc (by simpa using heap_alloc_new ((w.alloc (.cells #[.int .i64 x,.int .i64 y] 73 (0,0))).alloc (.cells A 77 (0,0))) (.cells (Qb6.map Value.string).toArray 189 (0,0)))
  ·rw[←hR];simpa using heap_alloc_new (((w.alloc (.cells #[.int .i64 x,.int .i64 y] 73 (0,0))).alloc (.cells A 77 (0,0))).alloc (.cells (Qb6.map Value.string).toArray 189 (0,0))) (.cells (Qb6.map Value.string).toArray 189 (0,0))
  ·simp;omega
 have HSZ:(Tryz.prog.info? 77).map (·.size)=some A.size:=hA▸Yhr c _;rw[hA];have HR:=Lib.hid hR;obtain⟨S0,hS0⟩:∃S0:World,((((w.alloc (.cells #[.int .i64 x,.int .i64 y] 73 (0,0))).alloc (.cells A 77 (0,0))).alloc (.cells (Qb6.map Value.string).toArray 189 (0,0))).alloc (.cells (Qb6.map Value.string).toArray 189 (0,0)))=S0:=⟨_,rfl⟩;rw[hS0] at hst0
 have HS0:=Lib.hid (show ((((w.alloc (.cells #[.int .i64 x,.int .i64 y] 73 (0,0))).alloc (.cells A 77 (0,0))).alloc (.cells #[.string ⟨#[]⟩,.string ⟨#[]⟩,.string ⟨#[]⟩,.string ⟨#[]⟩,.string ⟨#[]⟩,.string ⟨#[]⟩,.string ⟨#[]⟩] 189 (0,0))).alloc (.cells #[.string ⟨#[]⟩,.string ⟨#[]⟩,.string ⟨#[]⟩,.string ⟨#[]⟩,.string ⟨#[]⟩,.string ⟨#[]⟩,.string ⟨#[]⟩] 189 (0,0)))=S0 from hS0)
 have CF:Hid (∀z:World,z.heap[R+1]? =some (.cells A 77 (0,0))→z.cell? ⟨R+1,0,none⟩=some (.int .i64 (ns:Int))∧z.cell? ⟨R+1,1,none⟩=some (.bool c.skip)∧z.cell? ⟨R+1,2,none⟩=some (.int .i64 c.kind)∧z.cell? ⟨R+1,3,none⟩=some (.int .i64 c.step)∧z.cell? ⟨R+1,4,none⟩=some (.int .i64 c.mx)∧z.cell? ⟨R+1,5,none⟩=some (.int .i64 c.my)):=Lib.hid (fun z hz=>by
  have h:=Ylg (c:=c) (sl:=fun i=>.slice (p i) (n i) (k i)) (x:=z) (R:=R+1) (by rw[hA];exact hz);rw[hns] at h;exact h)
 have HCOD:=Lib.hid hcod;have HPAT:=Lib.hid hpat;have HSTP:=Lib.hid hstp;have HDR:=Lib.hid hdr;have HDIF:=Lib.hid hdif;clear hS0 hR hst hm2 hmm hA hV hVs hcod hpat hstp hdr hdif hc ht hband hshr cl1 cl2 cl3 f0 f1 f2 f3 f4 f5;generalize (⟨(Yfz inter ns).toArray⟩:ByteArray)=sN at *;generalize ((Yfw c 6:Nat):Int)=cd at *;generalize Yby inter c.kind (Ykd c:Nat)=kr at *
 generalize Yf2 (Yas c.kind) (Yfw c 4:Nat)=pr at *;generalize Yb8 c.step=sr at *;generalize Yas c.kind=ik at *;generalize Yca (c.mx-Yca x)=d0 at *;generalize Yca (c.my-Yca y)=d1 at *;generalize Yi1 inter x y c=L at *;cases inter
 ·simp only[bgS] at hrep PL;generalize Yby _ 5 0=s5 at *;cases hsk:c.skip
  ·rw[hsk] at PL
   go_enter Tryz.func167,Tryz.ntmps167
   go_wp2_with fail
   rw[HS0.out,HR.out];refine(hrow5 _).mono ?_;rintro e w1 ⟨rfl,hb1⟩;have P1:=hst0.move hb1;obtain⟨c0,-,-,-,-,-⟩:=CF.out _ P1.cel
   go_wp2_with fail
   refine(hrep _).mono ?_;rintro e w2 ⟨rfl,hb2⟩;have P2:=P1.move hb2;have P3:=P2.set 0 (.string sN);have r0:=Yab (o:=0) P2.rows rfl;have r1:=Yai (o:=0) P2.rows;obtain⟨-,c1,-,-,-,-⟩:=CF.out _ P3.cel;rw[hsk] at c1;have r2:=Yab (o:=1) P3.rows rfl;have r3:=Yai (o:=1) P3.rows;clear c0 hb1 hb2;have P4:=P3.set 1 (.string ⟨#[]⟩)
   go_wp2_with fail
   clear r0 r1 r2 r3 c1;generalize (w2.setCell ⟨R+1+1+1,0,none⟩ (.string sN)).setCell ⟨R+1+1+1,1,none⟩ (.string ⟨#[]⟩)=w4 at P4 ⊢;refine wp_region_held_drew (S:=fun z=>Below R w z∧z.heap[R+1]? =some (.cells A 77 (0,0))) (by kernel_rfl) ⟨P4.below.drew,P4.cel⟩ (fun hH=>?_);refine Yah 0 (some 32) hH ?_
   try simp only[Yaa]
   refine Yah 1 (some 33) hH ?_
   try simp only[Yaa]
   refine Yco 2 (some 34) (v:=.int .i64 c.kind) rfl rfl hH (by kernel_rfl) (fun x hx=>by have c0:=(CF.out x hx.2).2.2.1;go_simp) ?_
   try simp only[Yaa]
   refine Yaw 3 (some 35) (v:=.agg A) rfl rfl (by kernel_rfl) (by kernel_rfl) (by kernel_rfl) (fun _ _ _ h=>h) hH (Or.inl ⟨by kernel_rfl,fun x hx=>Ybw (ty:=77) (x:=.tmp 5) (ad:=⟨R+1,0,none⟩) (by kernel_rfl) (by kernel_rfl) (run_loadVar_row x (R+1) _ _ A (0,0) _ (hx.2) Tryz.underlying77 rfl HSZ)⟩) ?_
   try simp only[Yaa]
   refine wpAnyH_ready (rs:=[4]) (by kernel_rfl) (by simp) ?_;refine AllReadyH.cons rfl (fun K hK=>?_) AllReadyH.nil
   go_simp
   go_wp2_with fail
   refine(HCOD.out _ hH.1).mono ?_;rintro e w5 ⟨rfl,hb5⟩;have P5:=(P4.move (Below.refl _ w4).drew).move hb5;refine hK.out _ _ (⟨P5.below,P5.cel⟩) (fun hH2=>?_);clear hK K hH;have hH:=hH2;clear hH2
   try simp only[Yaa]
   refine Yah 5 (some 37) hH ?_
   try simp only[Yaa]
   refine wpAnyH_ready (rs:=[6]) (by kernel_rfl) (by simp) ?_;refine AllReadyH.cons rfl (fun K hK=>?_) AllReadyH.nil
   go_simp
   go_wp2_with fail
   refine(hrowk _).mono ?_;rintro e w6 ⟨rfl,hb6⟩;have P6:=P5.move hb6;refine hK.out _ _ (⟨P6.below,P6.cel⟩) (fun hH2=>?_);clear hK K hH;have hH:=hH2;clear hH2
   try simp only[Yaa]
   refine Yah 7 (some 31) hH ?_
   try simp only[Yaa]
   refine Yah 8 (some 39) hH ?_
   try simp only[Yaa]
   refine Yah 9 (some 40) hH ?_
   try simp only[Yaa]
   refine Yah 10 (some 41) hH ?_
   try simp only[Yaa]
   have P7:=P6.set 2 (.string kr);have r0:=Yab (o:=2) P6.rows rfl;have r1:=Yai (o:=2) P6.rows;refine wpAnyH_ready (rs:=[11]) (by kernel_rfl) (by simp) ?_;refine AllReadyH.cons rfl (fun K hK=>?_) AllReadyH.nil
   go_simp
   refine hK.out _ _ ⟨P7.below,P7.cel⟩ (fun hH2=>?_);clear hK K hH;have hH:=hH2;clear hH2;refine wpAnyH_done (by kernel_rfl) ?_ _;clear hH;clear r0 r1;generalize w6.setCell ⟨R+1+1+1,2,none⟩ (.string kr)=w7 at P7 ⊢
   go_wp2_with fail
   refine wp_region_held_drew (S:=fun z=>Below R w z∧z.heap[R+1]? =some (.cells A 77 (0,0))) (by kernel_rfl) ⟨P7.below.drew,P7.cel⟩ (fun hH=>?_)
   refine Yaw 0 (some 43) (v:=.agg A) rfl rfl (by kernel_rfl) (by kernel_rfl) (by kernel_rfl) (fun _ _ _ h=>h) hH (Or.inl ⟨by kernel_rfl,fun x hx=>Ybw (ty:=77) (x:=.tmp 5) (ad:=⟨R+1,0,none⟩) (by kernel_rfl) (by kernel_rfl) (run_loadVar_row x (R+1) _ _ A (0,0) _ (hx.2) Tryz.underlying77 rfl HSZ)⟩) ?_
   try simp only[Yaa]
   refine Yaw 2 (some 45) (v:=.agg A) rfl rfl (by kernel_rfl) (by kernel_rfl) (by kernel_rfl) (fun _ _ _ h=>h) hH (Or.inl ⟨by kernel_rfl,fun x hx=>Ybw (ty:=77) (x:=.tmp 5) (ad:=⟨R+1,0,none⟩) (by kernel_rfl) (by kernel_rfl) (run_loadVar_row x (R+1) _ _ A (0,0) _ (hx.2) Tryz.underlying77 rfl HSZ)⟩) ?_
   try simp only[Yaa]
   refine wpAnyH_ready (rs:=[1]) (by kernel_rfl) (by simp) ?_;refine AllReadyH.cons rfl (fun K hK=>?_) AllReadyH.nil
   go_simp
   go_wp2_with fail
   refine(hint _).mono ?_;rintro e w8 ⟨rfl,hb8⟩;have P8:=(P7.move (Below.refl _ w7).drew).move hb8;refine hK.out _ _ (⟨P8.below,P8.cel⟩) (fun hH2=>?_);clear hK K hH;have hH:=hH2;clear hH2
   try simp only[Yaa]
   refine wpAnyH_ready (rs:=[3]) (by kernel_rfl) (by simp) ?_;refine AllReadyH.cons rfl (fun K hK=>?_) AllReadyH.nil
   go_simp
   go_wp2_with fail
   refine(HCOD.out _ hH.1).mono ?_;rintro e w8b ⟨rfl,hb8b⟩;have P8b:=P8.move hb8b;refine hK.out _ _ (⟨P8b.below,P8b.cel⟩) (fun hH2=>?_);clear hK K hH;have hH:=hH2;clear hH2
   try simp only[Yaa]
   refine Yah 4 (some 47) hH ?_
   try simp only[Yaa]
   refine wpAnyH_ready (rs:=[5]) (by kernel_rfl) (by simp) ?_;refine AllReadyH.cons rfl (fun K hK=>?_) AllReadyH.nil
   go_simp
   go_wp2_with fail
   refine(HPAT.out _ hH.1).mono ?_;rintro e w9 ⟨rfl,hb9⟩;have P9:=P8b.move hb9;refine hK.out _ _ (⟨P9.below,P9.cel⟩) (fun hH2=>?_);clear hK K hH;have hH:=hH2;clear hH2
   try simp only[Yaa]
   refine Yah 6 (some 42) hH ?_
   try simp only[Yaa]
   refine Yah 7 (some 49) hH ?_
   try simp only[Yaa]
   refine Yah 8 (some 50) hH ?_
   try simp only[Yaa]
   refine Yah 9 (some 51) hH ?_
   try simp only[Yaa]
   have PA:=P9.set 3 (.string pr);have r0:=Yab (o:=3) P9.rows rfl;have r1:=Yai (o:=3) P9.rows;refine wpAnyH_ready (rs:=[10]) (by kernel_rfl) (by simp) ?_;refine AllReadyH.cons rfl (fun K hK=>?_) AllReadyH.nil
   go_simp
   refine hK.out _ _ ⟨PA.below,PA.cel⟩ (fun hH2=>?_);clear hK K hH;have hH:=hH2;clear hH2;refine wpAnyH_done (by kernel_rfl) ?_ _;clear hH;clear r0 r1;generalize w9.setCell ⟨R+1+1+1,3,none⟩ (.string pr)=wA at PA ⊢;obtain⟨-,-,-,c3,-,-⟩:=CF.out _ PA.cel
   go_wp2_with fail
   refine(HSTP.out _ PA.below).mono ?_;rintro e wB ⟨rfl,hbB⟩;have PB:=PA.move hbB;have PC:=PB.set 4 (.string sr);have r0:=Yab (o:=4) PB.rows rfl;have r1:=Yai (o:=4) PB.rows;have gC:=PC.cel;clear c3 hbB
   go_wp2_with (with_reducible refine wpList_load_row rfl 77 _ rfl (R+1) rfl 77 A (0,0) _ gC Tryz.underlying77 rfl HSZ ?_)
   refine(hint _).mono ?_;rintro e wD ⟨rfl,hbD⟩;have PD:=PC.move hbD;clear r0 r1 gC hbD;cases ik
   ·obtain⟨-,-,-,-,c4,c5⟩:=CF.out _ PD.cel;have b0:=Yab (o:=0) PD.pred rfl;have b1:=Yab (o:=1) PD.pred rfl
    go_wp2_with fail
    refine(HDIF.out (by trivial) (by first|exact hsk|trivial) _).mono ?_;rintro e wE ⟨rfl,hbE⟩;have PE:=PD.move hbE;obtain⟨D,hD⟩:∃D,wE.heap.size=D:=⟨_,rfl⟩;have PF:=PE.move ((Below.refl _ wE).alloc (Nat.le_refl _) (.cells #[.int .i64 d0,.int .i64 d1] 73 (0,0)));have hDR:R+4≤D:=by have:=PE.size;omega
    have hd:=heap_alloc_new wE (.cells [.int .i64 d0,.int .i64 d1].toArray 73 (0,0));rw[hD] at hd;obtain⟨wF,hwF⟩:∃wF,wE.alloc (.cells #[.int .i64 d0,.int .i64 d1] 73 (0,0))=wF:=⟨_,rfl⟩;have hdF:wF.heap[D]? =some (.cells [.int .i64 d0,.int .i64 d1].toArray 73 (0,0)):=hwF▸hd;have hzF:wF.heap.size=D+1:=by rw[←hwF,←hD];simp
    rw[hwF] at PF;have HWF:=Lib.hid hwF;have HD:=Lib.hid hD;clear c4 c5 b0 b1 hbE hd hwF hD
    go_wp2_with fail
    rw[HWF.out,HD.out];refine(HDR.out d0 _ PF.below).mono ?_;rintro e wG ⟨rfl,hbG⟩;have PG:=PF.move hbG;have PH:=PG.set 5 (.string (Ybz d0));have hdG:=(hbG.block D (by omega)).trans hdF;have r0:=Yab (o:=5) PG.rows rfl;have r1:=Yai (o:=5) PG.rows
    have hdH:(wG.setCell ⟨R+1+1+1,5,none⟩ (.string (Ybz d0))).heap[D]? =some (.cells [.int .i64 d0,.int .i64 d1].toArray 73 (0,0)):=(Below.heap_setCell wG ⟨R+1+1+1,5,none⟩ (.string (Ybz d0)) D (by show D≠R+1+1+1;omega)).trans hdG;have q1:=Yab (o:=1) hdH rfl;clear hbG
    go_wp2_with fail
    refine(HDR.out d1 _ PH.below).mono ?_;rintro e wI ⟨rfl,hbI⟩;have PI:=PH.move hbI;have PJ:=PI.set 6 (.string (Ybz d1));have s0:=Yab (o:=6) PI.rows rfl;have s1:=Yai (o:=6) PI.rows;have gres:=PJ.res;have grow:(wI.setCell ⟨R+1+1+1,6,none⟩ (.string (Ybz d1))).heap[R+1+1+1]? =some (.cells V 189 (0,0)):=by rw[←HVV.out,PL.out];exact PJ.rows
    clear r0 r1 q1 hdG hdH hbI
    go_wp2_with (first|(with_reducible refine wpList_load_row rfl 189 _ rfl (R+1+1+1) rfl 189 V (0,0) _ grow Tryz.underlying189 rfl HSV ?_)|(with_reducible refine Yaj rfl 189 _ _ rfl (R+1+1) V _ rfl rfl 189 gres HSV HYV HOV ?_;intro wf hhf hgf))
    refine bodyPost_ret (results_cell_row rfl _ _ (R+1+1) 189 _ (0,0) _ rfl hhf Tryz.underlying189 rfl HSV) rfl ?_;exact⟨by rw[HVV.out],by rw[HR.out];exact PJ.below.trans (Yew hgf (by omega) (by have:=PJ.size;omega))⟩
   ·have gres:=PD.res;have grow:wD.heap[R+1+1+1]? =some (.cells V 189 (0,0)):=by rw[←HVV.out,PL.out];exact PD.rows
    go_wp2_with (first|(with_reducible refine wpList_load_row rfl 189 _ rfl (R+1+1+1) rfl 189 V (0,0) _ grow Tryz.underlying189 rfl HSV ?_)|(with_reducible refine Yaj rfl 189 _ _ rfl (R+1+1) V _ rfl rfl 189 gres HSV HYV HOV ?_;intro wf hhf hgf))
    refine bodyPost_ret (results_cell_row rfl _ _ (R+1+1) 189 _ (0,0) _ rfl hhf Tryz.underlying189 rfl HSV) rfl ?_;exact⟨by rw[HVV.out],by rw[HR.out];exact PD.below.trans (Yew hgf (by omega) (by have:=PD.size;omega))⟩
  ·rw[hsk] at PL
   go_enter Tryz.func167,Tryz.ntmps167
   go_wp2_with fail
   rw[HS0.out,HR.out];refine(hrow5 _).mono ?_;rintro e w1 ⟨rfl,hb1⟩;have P1:=hst0.move hb1;obtain⟨c0,-,-,-,-,-⟩:=CF.out _ P1.cel
   go_wp2_with fail
   refine(hrep _).mono ?_;rintro e w2 ⟨rfl,hb2⟩;have P2:=P1.move hb2;have P3:=P2.set 0 (.string sN);have r0:=Yab (o:=0) P2.rows rfl;have r1:=Yai (o:=0) P2.rows;obtain⟨-,c1,-,-,-,-⟩:=CF.out _ P3.cel;rw[hsk] at c1;have r2:=Yab (o:=1) P3.rows rfl;have r3:=Yai (o:=1) P3.rows;clear c0 hb1 hb2;have P4:=P3.set 1 (.string ⟨#[49]⟩);have gres:=P4.res
   have grow:((w2.setCell ⟨R+1+1+1,0,none⟩ (.string sN)).setCell ⟨R+1+1+1,1,none⟩ (.string ⟨#[49]⟩)).heap[R+1+1+1]? =some (.cells V 189 (0,0)):=by rw[←HVV.out,PL.out];exact P4.rows
   go_wp2_with (first|(with_reducible refine wpList_load_row rfl 189 _ rfl (R+1+1+1) rfl 189 V (0,0) _ grow Tryz.underlying189 rfl HSV ?_)|(with_reducible refine Yaj rfl 189 _ _ rfl (R+1+1) V _ rfl rfl 189 gres HSV HYV HOV ?_;intro wf hhf hgf))
   refine bodyPost_ret (results_cell_row rfl _ _ (R+1+1) 189 _ (0,0) _ rfl hhf Tryz.underlying189 rfl HSV) rfl ?_;exact⟨by rw[HVV.out],by rw[HR.out];exact P4.below.trans (Yew hgf (by omega) (by have:=P4.size;omega))⟩
 ·simp only[bgS] at hrep PL;generalize Yby _ 5 0=s5 at *;cases hsk:c.skip
  ·rw[hsk] at PL
   go_enter Tryz.func167,Tryz.ntmps167
   go_wp2_with fail
   rw[HS0.out,HR.out];refine(hrow5 _).mono ?_;rintro e w1 ⟨rfl,hb1⟩;have P1:=hst0.move hb1;obtain⟨c0,-,-,-,-,-⟩:=CF.out _ P1.cel
   go_wp2_with fail
   refine(hrep _).mono ?_;rintro e w2 ⟨rfl,hb2⟩;have P2:=P1.move hb2;have P3:=P2.set 0 (.string sN);have r0:=Yab (o:=0) P2.rows rfl;have r1:=Yai (o:=0) P2.rows;obtain⟨-,c1,-,-,-,-⟩:=CF.out _ P3.cel;rw[hsk] at c1;have r2:=Yab (o:=1) P3.rows rfl;have r3:=Yai (o:=1) P3.rows;clear c0 hb1 hb2;have P4:=P3.set 1 (.string ⟨#[48]⟩)
   go_wp2_with fail
   clear r0 r1 r2 r3 c1;generalize (w2.setCell ⟨R+1+1+1,0,none⟩ (.string sN)).setCell ⟨R+1+1+1,1,none⟩ (.string ⟨#[48]⟩)=w4 at P4 ⊢;refine wp_region_held_drew (S:=fun z=>Below R w z∧z.heap[R+1]? =some (.cells A 77 (0,0))) (by kernel_rfl) ⟨P4.below.drew,P4.cel⟩ (fun hH=>?_);refine Yah 0 (some 32) hH ?_
   try simp only[Yaa]
   refine Yah 1 (some 33) hH ?_
   try simp only[Yaa]
   refine Yco 2 (some 34) (v:=.int .i64 c.kind) rfl rfl hH (by kernel_rfl) (fun x hx=>by have c0:=(CF.out x hx.2).2.2.1;go_simp) ?_
   try simp only[Yaa]
   refine Yaw 3 (some 35) (v:=.agg A) rfl rfl (by kernel_rfl) (by kernel_rfl) (by kernel_rfl) (fun _ _ _ h=>h) hH (Or.inl ⟨by kernel_rfl,fun x hx=>Ybw (ty:=77) (x:=.tmp 5) (ad:=⟨R+1,0,none⟩) (by kernel_rfl) (by kernel_rfl) (run_loadVar_row x (R+1) _ _ A (0,0) _ (hx.2) Tryz.underlying77 rfl HSZ)⟩) ?_
   try simp only[Yaa]
   refine wpAnyH_ready (rs:=[4]) (by kernel_rfl) (by simp) ?_;refine AllReadyH.cons rfl (fun K hK=>?_) AllReadyH.nil
   go_simp
   go_wp2_with fail
   refine(HCOD.out _ hH.1).mono ?_;rintro e w5 ⟨rfl,hb5⟩;have P5:=(P4.move (Below.refl _ w4).drew).move hb5;refine hK.out _ _ (⟨P5.below,P5.cel⟩) (fun hH2=>?_);clear hK K hH;have hH:=hH2;clear hH2
   try simp only[Yaa]
   refine Yah 5 (some 37) hH ?_
   try simp only[Yaa]
   refine wpAnyH_ready (rs:=[6]) (by kernel_rfl) (by simp) ?_;refine AllReadyH.cons rfl (fun K hK=>?_) AllReadyH.nil
   go_simp
   go_wp2_with fail
   refine(hrowk _).mono ?_;rintro e w6 ⟨rfl,hb6⟩;have P6:=P5.move hb6;refine hK.out _ _ (⟨P6.below,P6.cel⟩) (fun hH2=>?_);clear hK K hH;have hH:=hH2;clear hH2
   try simp only[Yaa]
   refine Yah 7 (some 31) hH ?_
   try simp only[Yaa]
   refine Yah 8 (some 39) hH ?_
   try simp only[Yaa]
   refine Yah 9 (some 40) hH ?_
   try simp only[Yaa]
   refine Yah 10 (some 41) hH ?_
   try simp only[Yaa]
   have P7:=P6.set 2 (.string kr);have r0:=Yab (o:=2) P6.rows rfl;have r1:=Yai (o:=2) P6.rows;refine wpAnyH_ready (rs:=[11]) (by kernel_rfl) (by simp) ?_;refine AllReadyH.cons rfl (fun K hK=>?_) AllReadyH.nil
   go_simp
   refine hK.out _ _ ⟨P7.below,P7.cel⟩ (fun hH2=>?_);clear hK K hH;have hH:=hH2;clear hH2;refine wpAnyH_done (by kernel_rfl) ?_ _;clear hH;clear r0 r1;generalize w6.setCell ⟨R+1+1+1,2,none⟩ (.string kr)=w7 at P7 ⊢
   go_wp2_with fail
   refine wp_region_held_drew (S:=fun z=>Below R w z∧z.heap[R+1]? =some (.cells A 77 (0,0))) (by kernel_rfl) ⟨P7.below.drew,P7.cel⟩ (fun hH=>?_)
   refine Yaw 0 (some 43) (v:=.agg A) rfl rfl (by kernel_rfl) (by kernel_rfl) (by kernel_rfl) (fun _ _ _ h=>h) hH (Or.inl ⟨by kernel_rfl,fun x hx=>Ybw (ty:=77) (x:=.tmp 5) (ad:=⟨R+1,0,none⟩) (by kernel_rfl) (by kernel_rfl) (run_loadVar_row x (R+1) _ _ A (0,0) _ (hx.2) Tryz.underlying77 rfl HSZ)⟩) ?_
   try simp only[Yaa]
   refine Yaw 2 (some 45) (v:=.agg A) rfl rfl (by kernel_rfl) (by kernel_rfl) (by kernel_rfl) (fun _ _ _ h=>h) hH (Or.inl ⟨by kernel_rfl,fun x hx=>Ybw (ty:=77) (x:=.tmp 5) (ad:=⟨R+1,0,none⟩) (by kernel_rfl) (by kernel_rfl) (run_loadVar_row x (R+1) _ _ A (0,0) _ (hx.2) Tryz.underlying77 rfl HSZ)⟩) ?_
   try simp only[Yaa]
   refine wpAnyH_ready (rs:=[1]) (by kernel_rfl) (by simp) ?_;refine AllReadyH.cons rfl (fun K hK=>?_) AllReadyH.nil
   go_simp
   go_wp2_with fail
   refine(hint _).mono ?_;rintro e w8 ⟨rfl,hb8⟩;have P8:=(P7.move (Below.refl _ w7).drew).move hb8;refine hK.out _ _ (⟨P8.below,P8.cel⟩) (fun hH2=>?_);clear hK K hH;have hH:=hH2;clear hH2
   try simp only[Yaa]
   refine wpAnyH_ready (rs:=[3]) (by kernel_rfl) (by simp) ?_;refine AllReadyH.cons rfl (fun K hK=>?_) AllReadyH.nil
   go_simp
   go_wp2_with fail
   refine(HCOD.out _ hH.1).mono ?_;rintro e w8b ⟨rfl,hb8b⟩;have P8b:=P8.move hb8b;refine hK.out _ _ (⟨P8b.below,P8b.cel⟩) (fun hH2=>?_);clear hK K hH;have hH:=hH2;clear hH2
   try simp only[Yaa]
   refine Yah 4 (some 47) hH ?_
   try simp only[Yaa]
   refine wpAnyH_ready (rs:=[5]) (by kernel_rfl) (by simp) ?_;refine AllReadyH.cons rfl (fun K hK=>?_) AllReadyH.nil
   go_simp
   go_wp2_with fail
   refine(HPAT.out _ hH.1).mono ?_;rintro e w9 ⟨rfl,hb9⟩;have P9:=P8b.move hb9;refine hK.out _ _ (⟨P9.below,P9.cel⟩) (fun hH2=>?_);clear hK K hH;have hH:=hH2;clear hH2
   try simp only[Yaa]
   refine Yah 6 (some 42) hH ?_
   try simp only[Yaa]
   refine Yah 7 (some 49) hH ?_
   try simp only[Yaa]
   refine Yah 8 (some 50) hH ?_
   try simp only[Yaa]
   refine Yah 9 (some 51) hH ?_
   try simp only[Yaa]
   have PA:=P9.set 3 (.string pr);have r0:=Yab (o:=3) P9.rows rfl;have r1:=Yai (o:=3) P9.rows;refine wpAnyH_ready (rs:=[10]) (by kernel_rfl) (by simp) ?_;refine AllReadyH.cons rfl (fun K hK=>?_) AllReadyH.nil
   go_simp
   refine hK.out _ _ ⟨PA.below,PA.cel⟩ (fun hH2=>?_);clear hK K hH;have hH:=hH2;clear hH2;refine wpAnyH_done (by kernel_rfl) ?_ _;clear hH;clear r0 r1;generalize w9.setCell ⟨R+1+1+1,3,none⟩ (.string pr)=wA at PA ⊢;obtain⟨-,-,-,c3,-,-⟩:=CF.out _ PA.cel
   go_wp2_with fail
   refine(HSTP.out _ PA.below).mono ?_;rintro e wB ⟨rfl,hbB⟩;have PB:=PA.move hbB;have PC:=PB.set 4 (.string sr);have r0:=Yab (o:=4) PB.rows rfl;have r1:=Yai (o:=4) PB.rows;have gC:=PC.cel;clear c3 hbB
   go_wp2_with (with_reducible refine wpList_load_row rfl 77 _ rfl (R+1) rfl 77 A (0,0) _ gC Tryz.underlying77 rfl HSZ ?_)
   refine(hint _).mono ?_;rintro e wD ⟨rfl,hbD⟩;have PD:=PC.move hbD;clear r0 r1 gC hbD;cases ik
   ·obtain⟨-,-,-,-,c4,c5⟩:=CF.out _ PD.cel;have b0:=Yab (o:=0) PD.pred rfl;have b1:=Yab (o:=1) PD.pred rfl
    go_wp2_with fail
    refine(HDIF.out (by trivial) (by first|exact hsk|trivial) _).mono ?_;rintro e wE ⟨rfl,hbE⟩;have PE:=PD.move hbE;obtain⟨D,hD⟩:∃D,wE.heap.size=D:=⟨_,rfl⟩;have PF:=PE.move ((Below.refl _ wE).alloc (Nat.le_refl _) (.cells #[.int .i64 d0,.int .i64 d1] 73 (0,0)));have hDR:R+4≤D:=by have:=PE.size;omega
    have hd:=heap_alloc_new wE (.cells [.int .i64 d0,.int .i64 d1].toArray 73 (0,0));rw[hD] at hd;obtain⟨wF,hwF⟩:∃wF,wE.alloc (.cells #[.int .i64 d0,.int .i64 d1] 73 (0,0))=wF:=⟨_,rfl⟩;have hdF:wF.heap[D]? =some (.cells [.int .i64 d0,.int .i64 d1].toArray 73 (0,0)):=hwF▸hd;have hzF:wF.heap.size=D+1:=by rw[←hwF,←hD];simp
    rw[hwF] at PF;have HWF:=Lib.hid hwF;have HD:=Lib.hid hD;clear c4 c5 b0 b1 hbE hd hwF hD
    go_wp2_with fail
    rw[HWF.out,HD.out];refine(HDR.out d0 _ PF.below).mono ?_;rintro e wG ⟨rfl,hbG⟩;have PG:=PF.move hbG;have PH:=PG.set 5 (.string (Ybz d0));have hdG:=(hbG.block D (by omega)).trans hdF;have r0:=Yab (o:=5) PG.rows rfl;have r1:=Yai (o:=5) PG.rows
    have hdH:(wG.setCell ⟨R+1+1+1,5,none⟩ (.string (Ybz d0))).heap[D]? =some (.cells [.int .i64 d0,.int .i64 d1].toArray 73 (0,0)):=(Below.heap_setCell wG ⟨R+1+1+1,5,none⟩ (.string (Ybz d0)) D (by show D≠R+1+1+1;omega)).trans hdG;have q1:=Yab (o:=1) hdH rfl;clear hbG
    go_wp2_with fail
    refine(HDR.out d1 _ PH.below).mono ?_;rintro e wI ⟨rfl,hbI⟩;have PI:=PH.move hbI;have PJ:=PI.set 6 (.string (Ybz d1));have s0:=Yab (o:=6) PI.rows rfl;have s1:=Yai (o:=6) PI.rows;have gres:=PJ.res;have grow:(wI.setCell ⟨R+1+1+1,6,none⟩ (.string (Ybz d1))).heap[R+1+1+1]? =some (.cells V 189 (0,0)):=by rw[←HVV.out,PL.out];exact PJ.rows
    clear r0 r1 q1 hdG hdH hbI
    go_wp2_with (first|(with_reducible refine wpList_load_row rfl 189 _ rfl (R+1+1+1) rfl 189 V (0,0) _ grow Tryz.underlying189 rfl HSV ?_)|(with_reducible refine Yaj rfl 189 _ _ rfl (R+1+1) V _ rfl rfl 189 gres HSV HYV HOV ?_;intro wf hhf hgf))
    refine bodyPost_ret (results_cell_row rfl _ _ (R+1+1) 189 _ (0,0) _ rfl hhf Tryz.underlying189 rfl HSV) rfl ?_;exact⟨by rw[HVV.out],by rw[HR.out];exact PJ.below.trans (Yew hgf (by omega) (by have:=PJ.size;omega))⟩
   ·have gres:=PD.res;have grow:wD.heap[R+1+1+1]? =some (.cells V 189 (0,0)):=by rw[←HVV.out,PL.out];exact PD.rows
    go_wp2_with (first|(with_reducible refine wpList_load_row rfl 189 _ rfl (R+1+1+1) rfl 189 V (0,0) _ grow Tryz.underlying189 rfl HSV ?_)|(with_reducible refine Yaj rfl 189 _ _ rfl (R+1+1) V _ rfl rfl 189 gres HSV HYV HOV ?_;intro wf hhf hgf))
    refine bodyPost_ret (results_cell_row rfl _ _ (R+1+1) 189 _ (0,0) _ rfl hhf Tryz.underlying189 rfl HSV) rfl ?_;exact⟨by rw[HVV.out],by rw[HR.out];exact PD.below.trans (Yew hgf (by omega) (by have:=PD.size;omega))⟩
  ·rw[hsk] at PL
   go_enter Tryz.func167,Tryz.ntmps167
   go_wp2_with fail
   rw[HS0.out,HR.out];refine(hrow5 _).mono ?_;rintro e w1 ⟨rfl,hb1⟩;have P1:=hst0.move hb1;obtain⟨c0,-,-,-,-,-⟩:=CF.out _ P1.cel
   go_wp2_with fail
   refine(hrep _).mono ?_;rintro e w2 ⟨rfl,hb2⟩;have P2:=P1.move hb2;have P3:=P2.set 0 (.string sN);have r0:=Yab (o:=0) P2.rows rfl;have r1:=Yai (o:=0) P2.rows;obtain⟨-,c1,-,-,-,-⟩:=CF.out _ P3.cel;rw[hsk] at c1;have r2:=Yab (o:=1) P3.rows rfl;have r3:=Yai (o:=1) P3.rows;clear c0 hb1 hb2;have P4:=P3.set 1 (.string ⟨#[49]⟩);have gres:=P4.res
   have grow:((w2.setCell ⟨R+1+1+1,0,none⟩ (.string sN)).setCell ⟨R+1+1+1,1,none⟩ (.string ⟨#[49]⟩)).heap[R+1+1+1]? =some (.cells V 189 (0,0)):=by rw[←HVV.out,PL.out];exact P4.rows
   go_wp2_with (first|(with_reducible refine wpList_load_row rfl 189 _ rfl (R+1+1+1) rfl 189 V (0,0) _ grow Tryz.underlying189 rfl HSV ?_)|(with_reducible refine Yaj rfl 189 _ _ rfl (R+1+1) V _ rfl rfl 189 gres HSV HYV HOV ?_;intro wf hhf hgf))
   refine bodyPost_ret (results_cell_row rfl _ _ (R+1+1) 189 _ (0,0) _ rfl hhf Tryz.underlying189 rfl HSV) rfl ?_;exact⟨by rw[HVV.out],by rw[HR.out];exact P4.below.trans (Yew hgf (by omega) (by have:=P4.size;omega))⟩
def Yu1 (l:List ByteArray):List UInt8:=(l.map (·.data.toList)).flatten
theorem Y7e (l:List ByteArray)(x:ByteArray):Yu1 (l++[x])=Yu1 l++x.data.toList:=by simp[Yu1]
theorem Yp8 {c:Cel}(h:Yp7 c=true):Yjg c=true∧Yjf c 6=[]:=by
 unfold Yp7 at h;simp only[Bool.and_eq_true,beq_iff_eq,List.all_eq_true,List.mem_range,decide_eq_true_eq] at h;obtain⟨⟨⟨k0,_⟩,_⟩,hd,he⟩:=h;have he2:∀i,i<6→c.ev i=[]:=fun i hi=>List.eq_nil_of_length_eq_zero (he i hi);refine⟨Yho.2 fun i hi=>?_,?_⟩
 ·rw[k0,hd i hi,he2 i hi];rfl
 ·simp only[Yjf,k0,hd 0 (by omega),hd 1 (by omega),hd 2 (by omega),hd 3 (by omega),hd 4 (by omega),hd 5 (by omega),he2 0 (by omega),he2 1 (by omega),he2 2 (by omega),he2 3 (by omega),he2 4 (by omega),he2 5 (by omega)]
  rfl
theorem Yri {inter:Bool}{c:Cel}(h:Ybp inter c=true):Yjg c=true:=by
 unfold Ybp at h;rw[Bool.and_eq_true] at h;cases hs:c.skip with
 |true=>
  rw[hs,if_pos rfl] at h;exact(Yp8 (Bool.and_eq_true_iff.1 h.2).2).1
 |false=>
  rw[hs,if_neg (by decide)] at h;exact(Bool.and_eq_true_iff.1 (Bool.and_eq_true_iff.1 h.2).2).2
theorem Yw8 {inter:Bool}{x y:Int}{c:Cel}(h:Ybp inter c=true):Yu1 (Yi1 inter x y c)++Yjf c 6=Yc4 inter x y c:=by
 unfold Ybp at h;rw[Bool.and_eq_true] at h;unfold Yc4 Yi1 Qf2;cases hs:c.skip with
 |true=>
  rw[hs,if_pos rfl] at h;rw[(Yp8 (Bool.and_eq_true_iff.1 h.2).2).2];simp[Yu1]
 |false=>cases hk:Yas c.kind <;> simp[Yu1]
theorem Y42 (inter:Bool)(x y:Int)(c:Cel):∀s∈Yi1 inter x y c,Yax s.data.toList=true:=by
 intro s hs;unfold Yi1 at hs;rw[List.mem_cons] at hs;rcases hs with rfl|hs
 ·exact(Yiv inter _).1
 ·split at hs
  ·simp only[List.mem_cons,List.not_mem_nil,or_false] at hs;rcases hs with rfl|rfl|rfl|rfl|rfl|rfl <;> rfl
  ·rw[List.mem_append] at hs;rcases hs with hs|hs
   ·simp only[List.mem_cons,List.not_mem_nil,or_false] at hs;rcases hs with rfl|rfl|rfl|rfl
    ·exact(Yna inter).1
    ·exact(Yh7 _ _ _).1
    ·exact(Yo9 _ _).1
    ·exact(Yjr _).1
   ·split at hs
    ·simp only[List.mem_cons,List.not_mem_nil,or_false] at hs;rcases hs with rfl|rfl <;> rfl
    ·simp only[List.mem_cons,List.not_mem_nil,or_false] at hs;rcases hs with rfl|rfl
     ·exact(Yik _).1
     ·exact(Yik _).1
theorem Qjq (a b c d e f g:ByteArray)(w:World):∀(i:Nat) (hi:i < [a,b,c,d,e,f,g].length),(Instr.index 189 (.agg #[.string a,.string b,.string c,.string d,.string e,.string f,.string g]) (.int .i64 (i:Nat))).run Tryz.prog w=.ok (.string ([a,b,c,d,e,f,g][i]'hi)) w
 |0,_=>by kernel_rfl
 |1,_=>by kernel_rfl
 |2,_=>by kernel_rfl
 |3,_=>by kernel_rfl
 |4,_=>by kernel_rfl
 |5,_=>by kernel_rfl
 |6,_=>by kernel_rfl
 |k+7,h=>absurd h (by simp)
theorem Qj9 {l:List ByteArray}(h:l.length=7):∃a b c d e f g,l=[a,b,c,d,e,f,g]:=by
 match l,h with
 |[a,b,c,d,e,f,g],_=>exact⟨a,b,c,d,e,f,g,rfl⟩
theorem Y7f (l:List ByteArray)(i:Nat):(Yu1 (l.take i)).length≤(Yu1 l).length:=by
 have h:Yu1 l=Yu1 (l.take i)++Yu1 (l.drop i):=by
  unfold Yu1;rw[←List.flatten_append,←List.map_append,List.take_append_drop]
 rw[h,List.length_append];omega
theorem Y9e {inter:Bool}{c:Cel}(h:Ybp inter c=true)(x y:Int):(Yc4 inter x y c).length≤20000:=by
 refine Y3n ?_ fun i hi=>?_
 ·unfold Ybp at h;rw[Bool.and_eq_true,Bool.and_eq_true,decide_eq_true_iff,decide_eq_true_iff] at h;omega
 ·have h1:=Ym9 (Yin (Yho.1 (Yri h) i hi)).2;omega
set_option maxRecDepth 100000 in
set_option maxHeartbeats 2000000 in
theorem Qhj (inter:Bool)(x y:Int)(c:Cel)(p:Nat→Option Addr)(n k:Nat→Nat)(B b:Nat)(r:List UInt8)(w:World)(hw:Ycj w B b r)(hr:r.length≤68719476736)(hB:B≤w.heap.size)(hfar:∀z,w.grownBy z (some b)→Ybh z.heap.size z∧Ymt z c p n)(hm:Ybp inter c=true):
  Calls Tryz.prog 139 #[.pointer (some ⟨b,0,none⟩),.bool inter,.agg #[.int .i64 x,.int .i64 y],.agg (Ybd c fun i=>.slice (p i) (n i) (k i)).toArray] w fun e w'=>e=.returned (.int .i64 0)∧Ycj w' B b (r++Yc4 inter x y c)∧w.grownBy w' (some b):=by
 have hbR:b<w.heap.size:=hw.lt;have hri:∀z,w.grownBy z (some b)→Calls Tryz.prog 82 #[.bool inter,.agg (Ybd c fun i=>.slice (p i) (n i) (k i)).toArray] z fun e w'=>e=.returned (.bool true)∧Below z.heap.size z w':=fun z hz=>by
  obtain⟨h1,h2⟩:=hfar z hz;rw[←hm];exact Yn8 inter c p n k z h2 h1.tcoef h1.steps
 have hpa:∀z,w.grownBy z (some b)→Calls Tryz.prog 167 #[.bool inter,.agg #[.int .i64 x,.int .i64 y],.agg (Ybd c fun i=>.slice (p i) (n i) (k i)).toArray] z fun e w'=>e=.returned (.agg ((Yi1 inter x y c).map Value.string).toArray)∧Below z.heap.size z w':=fun z hz=>by
  obtain⟨h1,h2⟩:=hfar z hz;exact Y41 inter x y c p n k z h2 h1 hm
 have hln:∀i,(Yu1 ((Yi1 inter x y c).take i)).length≤20000:=by
  intro i;have h1:=congrArg List.length (Yw8 (x:=x) (y:=y) hm);have h2:=Y9e hm x y;have h3:=Y7f (Yi1 inter x y c) i;rw[List.length_append] at h1;omega
 have hpb:∀z,w.grownBy z (some b)→Ycj z B b (r++Yu1 (Yi1 inter x y c))→Calls Tryz.prog 153 #[.pointer (some ⟨b,0,none⟩),.agg (Ybd c fun i=>.slice (p i) (n i) (k i)).toArray] z fun e w'=>Ycj w' B b (r++Yc4 inter x y c)∧z.grownBy w' (some b)∧e=.returned (.int .i64 0):=fun z hz hwz=>by
  have hl:=hln 7;rw[List.take_of_length_le (Nat.le_of_eq (Yo7 inter x y c))] at hl;refine(Yi7 c p n k B b _ z hwz (by rw[List.length_append];omega) (Nat.le_trans hB hz.size) (fun x hx=>⟨(hfar x (Yac hz hx)).1.tcoef,(hfar x (Yac hz hx)).2⟩)).mono ?_;rintro e w' ⟨i,h1,h2,h3,h4⟩;rcases h4 with ⟨rfl,_,rfl⟩|⟨h5,_⟩
  ·rw[List.append_assoc,Yw8 hm] at h2;exact⟨h2,h3,rfl⟩
  ·rw[Yri hm] at h5;cases h5
 have hRW:=Y42 inter x y c;have hL7:=Yo7 inter x y c;have HSZ:=Yhr c fun i=>.slice (p i) (n i) (k i);generalize (Ybd c fun i=>.slice (p i) (n i) (k i)).toArray=A at *;obtain⟨R,w1,w2,hR,hw1,hw2,hz1,hz2,hC0,hC1,hbC⟩:=Y4k w (.cells #[.int .i64 x,.int .i64 y] 73 (0,0)) (.cells A 77 (0,0));have HW1:=Lib.hid hw1;have HW2:=Lib.hid hw2;have HR:=Lib.hid hR;have hg2:w.grownBy w2 (some b):=Yak (hR▸hbC) _
 have HRI:=Lib.hid hri;have HPA:=Lib.hid hpa;have HPB:=Lib.hid hpb;have HLN:=Lib.hid hln;have hwr2:Ycj w2 B b r:=hw.below (hR▸hbC);have hRb:b<R:=by omega
 have hRB:B≤R:=by omega
 generalize Yi1 inter x y c=L at *;generalize Yc4 inter x y c=CR at *;obtain⟨l0,l1,l2,l3,l4,l5,l6,hL⟩:=Qj9 hL7;have HL:=Lib.hid hL;have IDX:=Lib.hid (fun i hi z=>Qjq l0 l1 l2 l3 l4 l5 l6 z i hi);clear hri hpa hpb hln hfar hm hw1 hw2 hw hbC hR hL hL7
 go_enter Tryz.func139,Tryz.ntmps139
 go_wp2_with (with_reducible refine wpList_load_row rfl 77 _ rfl (w.heap.size+1) rfl 77 A (0,0) _ (Y2y w _ _) Tryz.underlying77 rfl HSZ ?_)
 rw[HW1.out,HW2.out,HR.out];refine(HRI.out _ hg2).mono ?_;rintro e w3 ⟨rfl,hb3⟩;have hg3:=Yac hg2 (Yak hb3 (some b));have hwr3:=hwr2.below hb3;have k0:w3.heap[R]? =some (.cells [.int .i64 x,.int .i64 y].toArray 73 (0,0)):=(hb3.block R (by omega)).trans hC0;have k1:=(hb3.block (R+1) (by omega)).trans hC1;have b0:=Yab (o:=0) k0 rfl;have b1:=Yab (o:=1) k0 rfl;have hz3:=hb3.size;clear hC0 hC1 hwr2 hg2
 go_wp2_with (with_reducible refine wpList_load_row rfl 77 _ rfl (R+1) rfl 77 A (0,0) _ k1 Tryz.underlying77 rfl HSZ ?_)
 refine(HPA.out _ hg3).mono ?_;rintro e w4 ⟨rfl,hb4⟩;have hg4:=Yac hg3 (Yak hb4 (some b));have hwr4:=hwr3.below hb4;have k4:=(hb4.block (R+1) (by omega)).trans k1;have hz4:=hb4.size;rw[HL.out];simp only[List.map_cons,List.map_nil];clear k0 k1 b0 b1 hwr3 hg3 hb3 hb4
 go_wp2
 go_loopw [21] (fun z wr=>∃i:Nat,i≤7∧z=.int .i64 i∧Ycj wr B b (r++Yu1 (L.take i))∧w.grownBy wr (some b)∧wr.heap[R+1]? =some (.cells A 77 (0,0))) (fun z _=>7-(RowKit.intOf z).toNat)
 case atStart=>exact⟨0,by omega,rfl,by rw[List.take_zero];exact(List.append_nil r).symm▸hwr4,hg4,k4⟩
 case round=>
  clear hwr4 hg4 k4;obtain⟨i,hi7,rfl,hwr,hg,hk⟩:=hrel;have hzR:R+1<wr.heap.size:=(Array.getElem?_eq_some_iff.1 hk).1;by_cases hlt:i<7
  ·have t0:decide ((i:Int)<7)=true:=by simp;omega
   have hiL:i<L.length:=by rw[HL.out];exact hlt
   have i0:=IDX.out i hlt;obtain⟨s,hs⟩:∃s,[l0,l1,l2,l3,l4,l5,l6][i]'hlt=s:=⟨_,rfl⟩;rw[hs] at i0;have hsL:L[i]=s:=by rw[←hs];simp only[HL.out]
   have hrow:Yax s.data.toList=true:=hsL▸hRW _ (List.getElem_mem hiL);have hnx:Yu1 (L.take (i+1))=Yu1 (L.take i)++s.data.toList:=by rw[List.take_succ_eq_append_getElem hiL,Y7e,hsL]
   have hlen:=HLN.out (i+1);rw[hnx,List.length_append] at hlen;have hln2:s.data.toList.length=s.size:=rfl;have hadd:=Ysy wr B b (r++Yu1 (L.take i)) s hwr hrow (by rw[List.length_append];omega) (by have:=hg.size;omega);have NX:=Lib.hid hnx;clear hnx hlen hln2 hrow hsL hs hwr
   go_wp2_with fail
   refine hadd.mono ?_;rintro e w5 ⟨rfl,hwr5,hg5⟩;rw[List.append_assoc,←NX.out] at hwr5;have hg6:=Yac hg hg5;have hk5:=(hg5.block (R+1) hzR (fun h=>by injection h with h;omega)).trans hk;clear hadd
   go_wp2
   go_roundw
   case rel=>exact⟨i+1,by omega,by go_num,hwr5,hg6,hk5⟩
   case measure=>simp[RowKit.intOf];omega
  ·obtain rfl:i=7:=by omega
   have hL:L.take 7=L:=by rw[HL.out];rfl
   rw[hL] at hwr;clear hL
   go_wp2_with (with_reducible refine wpList_load_row rfl 77 _ rfl (R+1) rfl 77 A (0,0) _ hk Tryz.underlying77 rfl HSZ ?_)
   refine(HPB.out _ hg hwr).mono ?_;rintro e w5 ⟨hwr5,hg5,rfl⟩;have hg6:=Yac hg hg5
   go_wp2
   go_ret
   exact⟨rfl,hwr5,hg6⟩
end Go.Proofs.YtjjmalchelniiaaGreatDoor