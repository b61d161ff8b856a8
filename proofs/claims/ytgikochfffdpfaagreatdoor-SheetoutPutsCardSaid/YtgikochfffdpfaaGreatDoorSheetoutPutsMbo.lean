/- Texts that SheetoutPuts's proof stands on, part 41 of 47. No condition of its own. -/
import Derived.Test.YtgikochfffdpfaaGreatDoorSheetoutPutsMx
import Derived.Test.YtgikochfffdpfaaGreatDoorSheetoutPutsMy
import Derived.Test.YtgikochfffdpfaaGreatDoorSheetoutPutsMbj
import Derived.Test.YtgikochfffdpfaaGreatDoorSheetoutPutsMbk
import Derived.Test.YtgikochfffdpfaaGreatDoorSheetoutPutsMbl
import Derived.Test.YtgikochfffdpfaaGreatDoorSheetoutPutsMbn
import Derived.RegionTactic
import Derived.Deep.RegionWith
import Derived.Deep.CutRange
import Derived.Deep.DeepCutAuto
namespace Go.Proofs.YtgikochfffdpfaaGreatDoor
open Go.RowKit Go.Lib
theorem Yc3 {w x:World} {b N:Nat} (h:w.grownBy x (some b)) (hN:N≤b) (hz:N≤w.heap.size):Below N w x:=
 ⟨h.os,h.tape,h.output,h.size,fun k hk=> h.block k (by omega) (fun e=> by injection e with e;omega)⟩
set_option maxRecDepth 100000 in
theorem Yid (c:Cel) (p:Nat→Option Addr) (n k:Nat→Nat) (w:World) (hc:Yfu w c p n) (hT:Yhp w):Calls Tryz.prog 103 #[.agg (Ycs c fun i=> .slice (p i) (n i) (k i)).toArray] w fun e w'=> e = .returned (.bool (Ydx c))∧Below w.heap.size w w':=by
 have hput:=fun x (hx:Below w.heap.size w x)=> Yf6 c p n k (x.heap.size+1) x.heap.size [] (x.alloc Ye9) (Ybm.fresh rfl (Nat.lt_succ_self _)) (by simp) (by simp) (fun y hy=> by
  have h1:=hx.trans ((((Below.refl _ x).alloc (Nat.le_refl _) Ye9).trans (Yc3 hy (Nat.le_refl _) (by simp))).mono hx.size)
  exact ⟨hT.below h1,hc.below h1⟩)
 obtain ⟨A,hA,-,-,-,-,-,-,-,-⟩:=Ycg c fun i=> .slice (p i) (n i) (k i)
 obtain ⟨R,w0,hR,hw0,hz0,hb0,HSZ,hbx⟩:=Ydo w hA
 rw [hA]
 obtain ⟨ev,hev⟩:∃ev:Int,(if Ydx c=true then 0 else 7)=ev:=⟨_,rfl⟩
 have HEV:Hid ((ev==0)=Ydx c):=Lib.hid (by rw [←hev];cases Ydx c <;> rfl)
 have HPUT:Hid (∀x,(Below R w x∧x.heap[R]? = some (.cells A 56 (0,0)))→Calls Tryz.prog 116 #[.pointer (some ⟨x.heap.size,0,none⟩),.agg A] (x.alloc Ye9) fun e y=> e = .returned (.int .i64 ev)∧Below R w y∧y.heap[R]? = some (.cells A 56 (0,0))):=Lib.hid (by
  intro x hx
  have h1:=hput x (by rw [hR];exact hx.1)
  rw [hA] at h1
  refine h1.mono ?_
  rintro e y ⟨i,_,_,hg,h2⟩
  have h3:Below x.heap.size x y:=((Below.refl _ x).alloc (Nat.le_refl _) Ye9).trans (Yc3 hg (Nat.le_refl _) (by simp))
  refine ⟨?_,hx.1.trans (h3.mono (by have:=hx.1.size;omega)),(h3.block R (Array.getElem?_eq_some_iff.1 hx.2).1).trans hx.2⟩
  rcases h2 with ⟨_,h4,rfl⟩ | ⟨h4,rfl⟩
  ·rw [←hev,h4];rfl
  ·rw [←hev,h4];rfl)
 have hbx0:=(hbx w0 (Below.refl _ _)).1
 have HW:=Lib.hid hw0
 have HR:=Lib.hid hR
 clear hA hw0 hR hbx hput hc hT hev
 generalize Ydx c=bb at *
 go_enter Tryz.func103,Tryz.ntmps103
 go_wp2
 rw [HW.out,HR.out]
 refine wp_region_held_drew (S:=fun x=> Below R w x∧x.heap[R]? = some (.cells A 56 (0,0))) (by kernel_rfl) ⟨hb0.drew,hbx0⟩ (fun hH=> ?_)
 refine Yac 1 (some 4) (v:=.agg A) rfl rfl (by kernel_rfl) (by kernel_rfl) (by kernel_rfl) (fun _ _ _ h=> h) hH (Or.inl ⟨by kernel_rfl,fun x hx=> Ybf (ty:=56) (x:=.tmp 1) (ad:=⟨R,0,none⟩) (by kernel_rfl) (by kernel_rfl) (run_loadVar_row x (R) _ _ A (0,0) _ (hx.2) Tryz.underlying56 rfl HSZ)⟩) ?_
 try simp only [Act.put,List.setIfInBounds_toArray,List.set_cons_zero,List.set_cons_succ]
 refine wpAnyH_ready (rs:=[0]) (by kernel_rfl) (by simp) ?_
 refine AllReadyH.cons rfl (fun K hK=> ?_) AllReadyH.nil
 go_simp
 go_wp2_with fail
 obtain ⟨x0,hx0⟩:∃x0,w0.drew=x0:=⟨_,rfl⟩
 rw [hx0] at hH ⊢
 have hxz:R<x0.heap.size:=by rw [←hx0];show R<w0.heap.size;omega
 have hX:=hH
 refine (Yg8 _).mono ?_
 rintro e w2 ⟨rfl,rfl⟩
 refine hK.out _ _ (⟨hH.1.alloc (Nat.le_of_lt hxz) _,Yap hH.2⟩) (fun hH2=> ?_)
 clear hK K hH
 have hH:=hH2
 clear hH2
 try simp only [Act.put,List.setIfInBounds_toArray,List.set_cons_zero,List.set_cons_succ]
 refine wpAnyH_ready (rs:=[2]) (by kernel_rfl) (by simp) ?_
 refine AllReadyH.cons rfl (fun K hK=> ?_) AllReadyH.nil
 go_simp
 go_wp2_with fail
 refine (HPUT.out x0 hX).mono ?_
 rintro e w3 ⟨rfl,hb3,hk3⟩
 refine hK.out _ _ (⟨hb3,hk3⟩) (fun hH2=> ?_)
 clear hK K hH
 have hH:=hH2
 clear hH2
 try simp only [Act.put,List.setIfInBounds_toArray,List.set_cons_zero,List.set_cons_succ]
 refine Yac 3 (some 6) (v:=?_) rfl rfl (by kernel_rfl) (by kernel_rfl) (by kernel_rfl) (fun _ _ _ h=> h) hH (Or.inl ⟨by kernel_rfl,?_⟩) ?_
 rotate_left
 ·(intro x _;go_simp;try with_reducible rfl)
 rotate_right
 try simp only [Act.put,List.setIfInBounds_toArray,List.set_cons_zero,List.set_cons_succ]
 refine Yac 4 (some 2) (v:=?_) rfl rfl (by kernel_rfl) (by kernel_rfl) (by kernel_rfl) (fun _ _ _ h=> h) hH (Or.inl ⟨by kernel_rfl,?_⟩) ?_
 rotate_left
 ·(intro x _;go_simp;try with_reducible rfl)
 rotate_right
 try simp only [Act.put,List.setIfInBounds_toArray,List.set_cons_zero,List.set_cons_succ]
 refine wpAnyH_done (by kernel_rfl) ?_ _
 go_wp2
 go_ret
 exact ⟨Yad HEV.out,by rw [HR.out];exact hH.1⟩
set_option maxRecDepth 100000 in
theorem Yiw (inter:Bool) (c:Cel) (p:Nat→Option Addr) (n k:Nat→Nat) (w:World) (hc:Yfu w c p n) (hT:Yhp w) (hS:Ycl w):Calls Tryz.prog 75 #[.bool inter,.agg (Ycs c fun i=> .slice (p i) (n i) (k i)).toArray] w fun e w'=> e = .returned (.bool (Ya7 inter c))∧Below w.heap.size w w':=by
 have hba:=fun x (hx:Below w.heap.size w x)=> Yoz c p n k x (hc.below hx)
 have hki:=fun x=> Ykc inter c.kind x
 have hst:=fun x (hx:Below w.heap.size w x)=> Ykd c (fun i=> .slice (p i) (n i) (k i)) x (hS.below hx)
 have hve:=fun x=> Yie c (fun i=> .slice (p i) (n i) (k i)) x
 have hbl:=fun x (hx:Below w.heap.size w x)=> Yid c p n k x (hc.below hx) (hT.below hx)
 have ZC:Hid (Ya7 inter c=((decide (0≤c.stuff)&&decide (c.stuff≤64))&&(if c.skip then inter&&Yfz c else (Yey inter c.kind&&Yfg c.kind c.step)&&(Ykg c.kind c.mx c.my&&Ydx c)))):=Lib.hid rfl
 obtain ⟨A,hA,f0,f1,f2,f3,f4,f5,-,-⟩:=Ycg c fun i=> .slice (p i) (n i) (k i)
 obtain ⟨R,w0,hR,hw0,hz0,hb0,HSZ,hbx⟩:=Ydo w hA
 simp only [hA] at hba hst hve hbl
 rw [hR] at hba hst hbl
 rw [hA]
 have HW:=Lib.hid hw0
 have HR:=Lib.hid hR
 have HBX:=Lib.hid hbx
 have HBA:=Lib.hid hba
 have HST:=Lib.hid hst
 have HBL:=Lib.hid hbl
 clear hA hw0 hR hbx hba hst hbl hc hT hS
 generalize Ya7 inter c=z at *
 generalize Yfz c=zb at *
 generalize Yfg c.kind c.step=sb at *
 generalize Ykg c.kind c.mx c.my=vb at *
 generalize Ydx c=bb at *
 by_cases h0:c.stuff<0
 ·have t0:decide (c.stuff<0)=true:=decide_eq_true h0
  have Z:=Lib.hid (show z=false by rw [ZC.out,decide_eq_false (by omega:¬ 0≤c.stuff)];rfl)
  clear h0 ZC
  go_enter Tryz.func75,Tryz.ntmps75
  go_wp2
  go_ret
  exact ⟨Yad Z.out.symm,by rw [HW.out,HR.out];exact hb0⟩
 by_cases h1:64<c.stuff
 ·have t0:decide (c.stuff<0)=false:=decide_eq_false h0
  have t1:decide (64<c.stuff)=true:=decide_eq_true h1
  have Z:=Lib.hid (show z=false by rw [ZC.out,decide_eq_false (by omega:¬ c.stuff≤64),Bool.and_false];rfl)
  clear h0 h1 ZC
  go_enter Tryz.func75,Tryz.ntmps75
  go_wp2
  go_ret
  exact ⟨Yad Z.out.symm,by rw [HW.out,HR.out];exact hb0⟩
 have t0:decide (c.stuff<0)=false:=decide_eq_false h0
 have t1:decide (64<c.stuff)=false:=decide_eq_false h1
 rw [decide_eq_true (by omega:0≤c.stuff),decide_eq_true (by omega:c.stuff≤64)] at ZC
 clear h0 h1
 cases hsk:c.skip with
 | true=>
  rw [hsk] at ZC f1
  cases inter with
  | false=>
   have Z:=Lib.hid (show z=false by rw [ZC.out];rfl)
   go_enter Tryz.func75,Tryz.ntmps75
   go_wp2
   go_ret
   exact ⟨Yad Z.out.symm,by rw [HW.out,HR.out];exact hb0⟩
  | true=>
   have Z:=Lib.hid (show z=zb by rw [ZC.out];rfl)
   go_enter Tryz.func75,Tryz.ntmps75
   go_wp2_with (with_reducible refine Yav (by kernel_rfl) 56 _ rfl w.heap.size rfl 56 A (0,0) _ (heap_alloc_new w _) Tryz.underlying56 rfl HSZ ?_)
   rw [HW.out,HR.out]
   refine (HBA.out _ hb0).mono ?_
   rintro e w1 ⟨rfl,hb1⟩
   have hb2:=hb0.trans (hb1.mono (by omega))
   go_wp2
   go_ret
   exact ⟨Yad Z.out.symm,by rw [HR.out];exact hb2⟩
 | false=>
  rw [hsk] at ZC f1
  have Z:=Lib.hid (show z=(Yey inter c.kind&&sb&&(vb&&bb)) by rw [ZC.out];rfl)
  clear ZC
  generalize Yey inter c.kind=kb at *
  go_enter Tryz.func75,Tryz.ntmps75
  go_wp2_with fail
  rw [HW.out,HR.out]
  refine (hki _).mono ?_
  rintro e w1 ⟨rfl,rfl⟩
  obtain ⟨g1,g2⟩:=HBX.out _ (Below.refl _ _)
  cases kb with
  | false=>
   go_wp2
   go_ret
   exact ⟨Yad (by rw [Z.out];rfl),by rw [HR.out];exact hb0⟩
  | true=>
   go_wp2_with (with_reducible refine Yav (by kernel_rfl) 56 _ rfl R rfl 56 A (0,0) _ g1 Tryz.underlying56 rfl HSZ ?_)
   refine (HST.out _ hb0).mono ?_
   rintro e w1 ⟨rfl,hb1⟩
   have hb2:=hb0.trans (hb1.mono (by omega))
   have hz1:=hb1.size
   have g1:=(HBX.out _ (hb1.mono (by omega))).1
   cases sb with
   | false=>
    go_wp2
    go_ret
    exact ⟨Yad (by rw [Z.out];rfl),by rw [HR.out];exact hb2⟩
   | true=>
    go_wp2_with (with_reducible refine Yav (by kernel_rfl) 56 _ rfl R rfl 56 A (0,0) _ g1 Tryz.underlying56 rfl HSZ ?_)
    refine (hve _).mono ?_
    rintro e w2 ⟨rfl,hb3⟩
    have hb4:=hb2.trans (hb3.mono (by omega))
    have hz2:=hb3.size
    have g1:=(HBX.out _ ((hb1.trans (hb3.mono hz1)).mono (by omega))).1
    cases vb with
    | false=>
     go_wp2
     go_ret
     exact ⟨Yad (by rw [Z.out];rfl),by rw [HR.out];exact hb4⟩
    | true=>
     go_wp2_with (with_reducible refine Yav (by kernel_rfl) 56 _ rfl R rfl 56 A (0,0) _ g1 Tryz.underlying56 rfl HSZ ?_)
     refine (HBL.out _ hb4).mono ?_
     rintro e w3 ⟨rfl,hb5⟩
     have hb6:=hb4.trans (hb5.mono (by omega))
     go_wp2
     go_ret
     exact ⟨Yad (by rw [Z.out];rfl),by rw [HR.out];exact hb6⟩
def Yfx (inter:Bool) (x y:Int) (c:Cel):List ByteArray:=
 ⟨(Ybq inter c.stuff.toNat).toArray⟩::(if c.skip then [⟨#[49]⟩,⟨#[]⟩,⟨#[]⟩,⟨#[]⟩,⟨#[]⟩,⟨#[]⟩] else
  [⟨(Yta inter).toArray⟩,Ybp inter c.kind (Yg0 c:Nat),Ydg (Yaj c.kind) (Yc7 c 4:Nat),Yax c.step]++(if Yaj c.kind then [⟨#[]⟩,⟨#[]⟩] else [Yau (Ya5 (c.mx-Ya5 x)),Yau (Ya5 (c.my-Ya5 y))]))
def bgS:Bool→ByteArray
 | true=> ⟨#[48]⟩
 | false=> ⟨#[]⟩
def Yvs:List ByteArray:=[⟨#[]⟩,⟨#[]⟩,⟨#[]⟩,⟨#[]⟩,⟨#[]⟩,⟨#[]⟩,⟨#[]⟩]
structure Yxq (w wr:World) (R:Nat) (x y:Int) (A:Array Value) (l:List Value):Prop where
 below:Below R w wr
 pred:wr.heap[R]? = some (.cells [.int .i64 x,.int .i64 y].toArray 51 (0,0))
 cel:wr.heap[R+1]? = some (.cells A 56 (0,0))
 res:wr.heap[R+1+1]? = some (.cells (Yvs.map Value.string).toArray 139 (0,0))
 rows:wr.heap[R+1+1+1]? = some (.cells l.toArray 139 (0,0))
 size:R+4≤wr.heap.size
section
variable {w wr z:World} {R:Nat} {x y:Int} {A:Array Value} {l l':List Value}
theorem Yxq.move (h:Yxq w wr R x y A l) (hb:Below wr.heap.size wr z):Yxq w z R x y A l:=
 ⟨h.below.trans (hb.mono (by have:=h.size;omega)),(hb.block _ (by have:=h.size;omega)).trans h.pred,(hb.block _ (by have:=h.size;omega)).trans h.cel,(hb.block _ (by have:=h.size;omega)).trans h.res,(hb.block _ (by have:=h.size;omega)).trans h.rows,Nat.le_trans h.size hb.size⟩
theorem Yxq.set (h:Yxq w wr R x y A l) (o:Nat) (v:Value):Yxq w (wr.setCell ⟨R+1+1+1,o,none⟩ v) R x y A (l.set o v):=by
 have hb:Below (R+1+1+1) wr (wr.setCell ⟨R+1+1+1,o,none⟩ v):=⟨rfl,rfl,rfl,by simp [World.setCell],fun k hk=> Below.heap_setCell _ _ _ _ (by simp;omega)⟩
 exact ⟨h.below.trans (hb.mono (by omega)),(hb.block _ (by omega)).trans h.pred,(hb.block _ (by omega)).trans h.cel,(hb.block _ (by omega)).trans h.res,Yba (o:=o) v h.rows,Nat.le_trans h.size hb.size⟩
end
theorem Yjj (inter:Bool) (x y:Int) (c:Cel):(Yfx inter x y c).length=7:=by
 unfold Yfx
 cases c.skip <;> cases Yaj c.kind <;> rfl
theorem Yt7:∀m,m<64→bits .and .i64 ((m:Nat):Int) 3=((m%4:Nat):Int):=by decide +kernel
set_option maxRecDepth 100000 in
set_option maxHeartbeats 4000000 in
theorem Yr1 (inter:Bool) (x y:Int) (c:Cel) (p:Nat→Option Addr) (n k:Nat→Nat) (w:World) (hc:Yfu w c p n) (ht:Ybn w.heap.size w) (hm:Ya7 inter c=true):
  Calls Tryz.prog 115 #[.bool inter,.agg #[.int .i64 x,.int .i64 y],.agg (Ycs c fun i=> .slice (p i) (n i) (k i)).toArray] w fun e w'=> e = .returned (.agg ((Yfx inter x y c).map Value.string).toArray)∧Below w.heap.size w w':=by
 obtain ⟨R,hR⟩:∃R,w.heap.size=R:=⟨_,rfl⟩
 have hmm:=hm
 unfold Ya7 at hm
 rw [Bool.and_eq_true,Bool.and_eq_true,decide_eq_true_iff,decide_eq_true_iff] at hm
 obtain ⟨hst,hm2⟩:=hm
 obtain ⟨ns,hns⟩:∃ns:Nat,c.stuff=(ns:Int):=⟨c.stuff.toNat,by omega⟩
 have hrow5:=fun z=> Ym8 inter 5 0 z
 have h59:(Ybp inter 5 0).size≤9:=(Ydr inter 5 0).2
 have hrep:=fun z=> Yww inter ns (bgS inter++Ybp inter 5 0) z (by cases inter <;> decide +kernel) (by omega)
 obtain ⟨cl1,cl2,cl3⟩:=Yxi c
 have hband:bits .and .i64 ((Yc7 c 6:Nat):Int) 3=((Yg0 c:Nat):Int):=by rw [Yt7 _ cl3,Yls,show (4*Yc7 c 4+Yg0 c)%4=Yg0 c by omega]
 have hshr:((Yc7 c 6:Nat):Int) / 2^2=((Yc7 c 4:Nat):Int):=by have:=Yls c;omega
 obtain ⟨A,hA,f0,f1,f2,f3,f4,f5,-,-⟩:=Ycg c fun i=> .slice (p i) (n i) (k i)
 have hcod:∀z,Below R w z→Calls Tryz.prog 126 #[.agg A] z fun e w'=> e = .returned (.int .i64 (Yc7 c 6:Nat))∧Below z.heap.size z w':=fun z hz=> hA▸Ymr c p n k z (hc.below (hR▸hz))
 have hint:∀z,Calls Tryz.prog 128 #[.agg A] z fun e w'=> e = .returned (.bool (Yaj c.kind))∧Below z.heap.size z w':=fun z=> hA▸Ye6 c _ z
 have hrowk:∀z,Calls Tryz.prog 140 #[.bool inter,.int .i64 c.kind,.int .i64 (bits .and .i64 ((Yc7 c 6:Nat):Int) 3)] z fun e w'=> e = .returned (.tuple #[.string (Ybp inter c.kind (Yg0 c:Nat)),.bool (!(Ybp inter c.kind (Yg0 c:Nat)).data.toList.isEmpty)])∧Below z.heap.size z w':=fun z=> by rw [hband];exact Ym8 inter c.kind _ z
 have hpat:∀z,Below R w z→Calls Tryz.prog 142 #[.bool (Yaj c.kind),.int .i64 (((Yc7 c 6:Nat):Int) / 2^2)] z fun e w'=> e = .returned (.tuple #[.string (Ydg (Yaj c.kind) (Yc7 c 4:Nat)),.bool (!(Ydg (Yaj c.kind) (Yc7 c 4:Nat)).data.toList.isEmpty)])∧Below z.heap.size z w':=fun z hz=> by rw [hshr];exact Yur _ _ z (Ybn.below (hR▸ht) hz).pats
 have hstp:∀z,Below R w z→Calls Tryz.prog 127 #[.int .i64 c.step] z fun e w'=> e = .returned (.tuple #[.string (Yax c.step),.bool (!(Yax c.step).data.toList.isEmpty)])∧Below z.heap.size z w':=fun z hz=> Yn2 c.step z (Ybn.below (hR▸ht) hz).steps
 have hdr:∀d z,Below R w z→Calls Tryz.prog 144 #[.int .i64 d] z fun e w'=> e = .returned (.tuple #[.string (Yau d),.bool (!(Yau d).data.toList.isEmpty)])∧Below z.heap.size z w':=fun d z hz=> Yts d z (Ybn.below (hR▸ht) hz).mvd
 have hdif:Yaj c.kind=false→c.skip=false→∀z,Calls Tryz.prog 143 #[.agg #[.int .i64 c.mx,.int .i64 c.my],.agg #[.int .i64 x,.int .i64 y]] z fun e w'=> e = .returned (.agg #[.int .i64 (Ya5 (c.mx-Ya5 x)),.int .i64 (Ya5 (c.my-Ya5 y))])∧Below z.heap.size z w':=fun hk hs z=> by
  rw [hs,if_neg (by decide),Bool.and_eq_true,Bool.and_eq_true,Bool.and_eq_true] at hm2
  have hv:=hm2.2.1
  unfold Ykg at hv
  rw [hk,if_neg (by decide),Bool.and_eq_true,beq_iff_eq,beq_iff_eq] at hv
  exact Yiz c.mx c.my x y z (Yc6.1 hv.1) (Yc6.1 hv.2)
 have PL:=Lib.hid (show Yfx inter x y c=⟨(Ybq inter ns).toArray⟩::(if c.skip then [⟨#[49]⟩,⟨#[]⟩,⟨#[]⟩,⟨#[]⟩,⟨#[]⟩,⟨#[]⟩] else
  [bgS inter,Ybp inter c.kind (Yg0 c:Nat),Ydg (Yaj c.kind) (Yc7 c 4:Nat),Yax c.step]++(if Yaj c.kind then [⟨#[]⟩,⟨#[]⟩] else [Yau (Ya5 (c.mx-Ya5 x)),Yau (Ya5 (c.my-Ya5 y))])) by
   unfold Yfx
   rw [hns,Int.toNat_natCast]
   cases inter <;> rfl)
 obtain ⟨V,hV⟩:∃V,((Yfx inter x y c).map Value.string).toArray=V:=⟨_,rfl⟩
 have hVs:V.size=7:=by rw [←hV];simp [Yjj]
 have HSV:(Tryz.prog.info? 139).map (·.size)=some V.size:=by rw [hVs];kernel_rfl
 have HOV:V.all (·.oneCell')=true:=by rw [←hV];simp [Value.oneCell']
 have HYV:((Yvs.map Value.string).toArray).size=V.size:=by rw [hVs];rfl
 have HVV:=Lib.hid hV
 have hst0:Yxq w ((((w.alloc (.cells #[.int .i64 x,.int .i64 y] 51 (0,0))).alloc (.cells A 56 (0,0))).alloc (.cells (Yvs.map Value.string).toArray 139 (0,0))).alloc (.cells (Yvs.map Value.string).toArray 139 (0,0))) R x y A (Yvs.map Value.string):=by
  refine ⟨?_,?_,?_,?_,?_,?_⟩
  ·exact ((((Below.refl R w).alloc (Nat.le_of_eq hR.symm) _).alloc (by simp;omega) _).alloc (by simp;omega) _).alloc (by simp;omega) _
  ·rw [←hR];exact Yap (Yap (Yap (heap_alloc_new w _)))
  ·rw [←hR];exact Yap (Yap (by simpa using heap_alloc_new (w.alloc (.cells #[.int .i64 x,.int .i64 y] 51 (0,0))) (.cells A 56 (0,0))))
  ·rw [←hR];exact Yap (by simpa using heap_alloc_new ((w.alloc (.cells #[.int .i64 x,.int .i64 y] 51 (0,0))).alloc (.cells A 56 (0,0))) (.cells (Yvs.map Value.string).toArray 139 (0,0)))
  ·rw [←hR];simpa using heap_alloc_new (((w.alloc (.cells #[.int .i64 x,.int .i64 y] 51 (0,0))).alloc (.cells A 56 (0,0))).alloc (.cells (Yvs.map Value.string).toArray 139 (0,0))) (.cells (Yvs.map Value.string).toArray 139 (0,0))
  ·simp;omega
 have HSZ:(Tryz.prog.info? 56).map (·.size)=some A.size:=hA▸Ye4 c _
 rw [hA]
 have HR:=Lib.hid hR
 obtain ⟨S0,hS0⟩:∃S0:World,((((w.alloc (.cells #[.int .i64 x,.int .i64 y] 51 (0,0))).alloc (.cells A 56 (0,0))).alloc (.cells (Yvs.map Value.string).toArray 139 (0,0))).alloc (.cells (Yvs.map Value.string).toArray 139 (0,0)))=S0:=⟨_,rfl⟩
 rw [hS0] at hst0
 have HS0:=Lib.hid (show ((((w.alloc (.cells #[.int .i64 x,.int .i64 y] 51 (0,0))).alloc (.cells A 56 (0,0))).alloc (.cells #[.string ⟨#[]⟩,.string ⟨#[]⟩,.string ⟨#[]⟩,.string ⟨#[]⟩,.string ⟨#[]⟩,.string ⟨#[]⟩,.string ⟨#[]⟩] 139 (0,0))).alloc (.cells #[.string ⟨#[]⟩,.string ⟨#[]⟩,.string ⟨#[]⟩,.string ⟨#[]⟩,.string ⟨#[]⟩,.string ⟨#[]⟩,.string ⟨#[]⟩] 139 (0,0)))=S0 from hS0)
 have CF:Hid (∀z:World,z.heap[R+1]? = some (.cells A 56 (0,0))→z.cell? ⟨R+1,0,none⟩=some (.int .i64 (ns:Int))∧z.cell? ⟨R+1,1,none⟩=some (.bool c.skip)∧z.cell? ⟨R+1,2,none⟩=some (.int .i64 c.kind)∧z.cell? ⟨R+1,3,none⟩=some (.int .i64 c.step)∧z.cell? ⟨R+1,4,none⟩=some (.int .i64 c.mx)∧z.cell? ⟨R+1,5,none⟩=some (.int .i64 c.my)):=Lib.hid (fun z hz=> by
  have h:=Yaz (c:=c) (sl:=fun i=> .slice (p i) (n i) (k i)) (x:=z) (R:=R+1) (by rw [hA];exact hz)
  rw [hns] at h
  exact h)
 have HCOD:=Lib.hid hcod
 have HPAT:=Lib.hid hpat
 have HSTP:=Lib.hid hstp
 have HDR:=Lib.hid hdr
 have HDIF:=Lib.hid hdif
 clear hS0 hR hst hm2 hmm hA hV hVs hcod hpat hstp hdr hdif hc ht hband hshr cl1 cl2 cl3 f0 f1 f2 f3 f4 f5
 generalize (⟨(Ybq inter ns).toArray⟩:ByteArray)=sN at *
 generalize ((Yc7 c 6:Nat):Int)=cd at *
 generalize Ybp inter c.kind (Yg0 c:Nat)=kr at *
 generalize Ydg (Yaj c.kind) (Yc7 c 4:Nat)=pr at *
 generalize Yax c.step=sr at *
 generalize Yaj c.kind=ik at *
 generalize Ya5 (c.mx-Ya5 x)=d0 at *
 generalize Ya5 (c.my-Ya5 y)=d1 at *
 generalize Yfx inter x y c=L at *
 cases inter
 ·simp only [bgS] at hrep PL
  generalize Ybp _ 5 0=s5 at *
  cases hsk:c.skip
  ·rw [hsk] at PL
   go_enter Tryz.func115,Tryz.ntmps115
   go_wp2_with fail
   rw [HS0.out,HR.out]
   refine (hrow5 _).mono ?_
   rintro e w1 ⟨rfl,hb1⟩
   have P1:=hst0.move hb1
   obtain ⟨c0,-,-,-,-,-⟩:=CF.out _ P1.cel
   go_wp2_with fail
   refine (hrep _).mono ?_
   rintro e w2 ⟨rfl,hb2⟩
   have P2:=P1.move hb2
   have P3:=P2.set 0 (.string sN)
   have r0:=Yab (o:=0) P2.rows rfl
   have r1:=Yan (o:=0) P2.rows
   obtain ⟨-,c1,-,-,-,-⟩:=CF.out _ P3.cel
   rw [hsk] at c1
   have r2:=Yab (o:=1) P3.rows rfl
   have r3:=Yan (o:=1) P3.rows
   clear c0 hb1 hb2
   have P4:=P3.set 1 (.string ⟨#[]⟩)
   go_wp2_with fail
   clear r0 r1 r2 r3 c1
   generalize (w2.setCell ⟨R+1+1+1,0,none⟩ (.string sN)).setCell ⟨R+1+1+1,1,none⟩ (.string ⟨#[]⟩)=w4 at P4 ⊢
   refine wp_region_held_drew (S:=fun z=> Below R w z∧z.heap[R+1]? = some (.cells A 56 (0,0))) (by kernel_rfl) ⟨P4.below.drew,P4.cel⟩ (fun hH=> ?_)
   refine Yac 0 (some 32) (v:=?_) rfl rfl (by kernel_rfl) (by kernel_rfl) (by kernel_rfl) (fun _ _ _ h=> h) hH (Or.inl ⟨by kernel_rfl,?_⟩) ?_
   rotate_left
   ·(intro x _;go_simp;try with_reducible rfl)
   rotate_right
   try simp only [Act.put,List.setIfInBounds_toArray,List.set_cons_zero,List.set_cons_succ]
   refine Yac 1 (some 33) (v:=?_) rfl rfl (by kernel_rfl) (by kernel_rfl) (by kernel_rfl) (fun _ _ _ h=> h) hH (Or.inl ⟨by kernel_rfl,?_⟩) ?_
   rotate_left
   ·(intro x _;go_simp;try with_reducible rfl)
   rotate_right
   try simp only [Act.put,List.setIfInBounds_toArray,List.set_cons_zero,List.set_cons_succ]
   refine Yac 2 (some 34) (v:=.int .i64 c.kind) rfl rfl (by kernel_rfl) (by kernel_rfl) (by kernel_rfl) (fun _ _ _ h=> h) hH (Or.inl ⟨by kernel_rfl,?_⟩) ?_
   ·(intro x hx;have c0:=(CF.out x hx.2).2.2.1;go_simp)
   try simp only [Act.put,List.setIfInBounds_toArray,List.set_cons_zero,List.set_cons_succ]
   refine Yac 3 (some 35) (v:=.agg A) rfl rfl (by kernel_rfl) (by kernel_rfl) (by kernel_rfl) (fun _ _ _ h=> h) hH (Or.inl ⟨by kernel_rfl,fun x hx=> Ybf (ty:=56) (x:=.tmp 5) (ad:=⟨R+1,0,none⟩) (by kernel_rfl) (by kernel_rfl) (run_loadVar_row x (R+1) _ _ A (0,0) _ (hx.2) Tryz.underlying56 rfl HSZ)⟩) ?_
   try simp only [Act.put,List.setIfInBounds_toArray,List.set_cons_zero,List.set_cons_succ]
   refine wpAnyH_ready (rs:=[4]) (by kernel_rfl) (by simp) ?_
   refine AllReadyH.cons rfl (fun K hK=> ?_) AllReadyH.nil
   go_simp
   go_wp2_with fail
   refine (HCOD.out _ hH.1).mono ?_
   rintro e w5 ⟨rfl,hb5⟩
   have P5:=(P4.move (Below.refl _ w4).drew).move hb5
   refine hK.out _ _ (⟨P5.below,P5.cel⟩) (fun hH2=> ?_)
   clear hK K hH
   have hH:=hH2
   clear hH2
   try simp only [Act.put,List.setIfInBounds_toArray,List.set_cons_zero,List.set_cons_succ]
   refine Yac 5 (some 37) (v:=?_) rfl rfl (by kernel_rfl) (by kernel_rfl) (by kernel_rfl) (fun _ _ _ h=> h) hH (Or.inl ⟨by kernel_rfl,?_⟩) ?_
   rotate_left
   ·(intro x _;go_simp;try with_reducible rfl)
   rotate_right
   try simp only [Act.put,List.setIfInBounds_toArray,List.set_cons_zero,List.set_cons_succ]
   refine wpAnyH_ready (rs:=[6]) (by kernel_rfl) (by simp) ?_
   refine AllReadyH.cons rfl (fun K hK=> ?_) AllReadyH.nil
   go_simp
   go_wp2_with fail
   refine (hrowk _).mono ?_
   rintro e w6 ⟨rfl,hb6⟩
   have P6:=P5.move hb6
   refine hK.out _ _ (⟨P6.below,P6.cel⟩) (fun hH2=> ?_)
   clear hK K hH
   have hH:=hH2
   clear hH2
   try simp only [Act.put,List.setIfInBounds_toArray,List.set_cons_zero,List.set_cons_succ]
   refine Yac 7 (some 31) (v:=?_) rfl rfl (by kernel_rfl) (by kernel_rfl) (by kernel_rfl) (fun _ _ _ h=> h) hH (Or.inl ⟨by kernel_rfl,?_⟩) ?_
   rotate_left
   ·(intro x _;go_simp;try with_reducible rfl)
   rotate_right
   try simp only [Act.put,List.setIfInBounds_toArray,List.set_cons_zero,List.set_cons_succ]
   refine Yac 8 (some 39) (v:=?_) rfl rfl (by kernel_rfl) (by kernel_rfl) (by kernel_rfl) (fun _ _ _ h=> h) hH (Or.inl ⟨by kernel_rfl,?_⟩) ?_
   rotate_left
   ·(intro x _;go_simp;try with_reducible rfl)
   rotate_right
   try simp only [Act.put,List.setIfInBounds_toArray,List.set_cons_zero,List.set_cons_succ]
   refine Yac 9 (some 40) (v:=?_) rfl rfl (by kernel_rfl) (by kernel_rfl) (by kernel_rfl) (fun _ _ _ h=> h) hH (Or.inl ⟨by kernel_rfl,?_⟩) ?_
   rotate_left
   ·(intro x _;go_simp;try with_reducible rfl)
   rotate_right
   try simp only [Act.put,List.setIfInBounds_toArray,List.set_cons_zero,List.set_cons_succ]
   refine Yac 10 (some 41) (v:=?_) rfl rfl (by kernel_rfl) (by kernel_rfl) (by kernel_rfl) (fun _ _ _ h=> h) hH (Or.inl ⟨by kernel_rfl,?_⟩) ?_
   rotate_left
   ·(intro x _;go_simp;try with_reducible rfl)
   rotate_right
   try simp only [Act.put,List.setIfInBounds_toArray,List.set_cons_zero,List.set_cons_succ]
   have P7:=P6.set 2 (.string kr)
   have r0:=Yab (o:=2) P6.rows rfl
   have r1:=Yan (o:=2) P6.rows
   refine wpAnyH_ready (rs:=[11]) (by kernel_rfl) (by simp) ?_
   refine AllReadyH.cons rfl (fun K hK=> ?_) AllReadyH.nil
   go_simp
   refine hK.out _ _ ⟨P7.below,P7.cel⟩ (fun hH2=> ?_)
   clear hK K hH
   have hH:=hH2
   clear hH2
   refine wpAnyH_done (by kernel_rfl) ?_ _
   clear hH
   clear r0 r1
   generalize w6.setCell ⟨R+1+1+1,2,none⟩ (.string kr)=w7 at P7 ⊢
   go_wp2_with fail
   refine wp_region_held_drew (S:=fun z=> Below R w z∧z.heap[R+1]? = some (.cells A 56 (0,0))) (by kernel_rfl) ⟨P7.below.drew,P7.cel⟩ (fun hH=> ?_)
   refine Yac 0 (some 43) (v:=.agg A) rfl rfl (by kernel_rfl) (by kernel_rfl) (by kernel_rfl) (fun _ _ _ h=> h) hH (Or.inl ⟨by kernel_rfl,fun x hx=> Ybf (ty:=56) (x:=.tmp 5) (ad:=⟨R+1,0,none⟩) (by kernel_rfl) (by kernel_rfl) (run_loadVar_row x (R+1) _ _ A (0,0) _ (hx.2) Tryz.underlying56 rfl HSZ)⟩) ?_
   try simp only [Act.put,List.setIfInBounds_toArray,List.set_cons_zero,List.set_cons_succ]
   refine Yac 2 (some 45) (v:=.agg A) rfl rfl (by kernel_rfl) (by kernel_rfl) (by kernel_rfl) (fun _ _ _ h=> h) hH (Or.inl ⟨by kernel_rfl,fun x hx=> Ybf (ty:=56) (x:=.tmp 5) (ad:=⟨R+1,0,none⟩) (by kernel_rfl) (by kernel_rfl) (run_loadVar_row x (R+1) _ _ A (0,0) _ (hx.2) Tryz.underlying56 rfl HSZ)⟩) ?_
   try simp only [Act.put,List.setIfInBounds_toArray,List.set_cons_zero,List.set_cons_succ]
   refine wpAnyH_ready (rs:=[1]) (by kernel_rfl) (by simp) ?_
   refine AllReadyH.cons rfl (fun K hK=> ?_) AllReadyH.nil
   go_simp
   go_wp2_with fail
   refine (hint _).mono ?_
   rintro e w8 ⟨rfl,hb8⟩
   have P8:=(P7.move (Below.refl _ w7).drew).move hb8
   refine hK.out _ _ (⟨P8.below,P8.cel⟩) (fun hH2=> ?_)
   clear hK K hH
   have hH:=hH2
   clear hH2
   try simp only [Act.put,List.setIfInBounds_toArray,List.set_cons_zero,List.set_cons_succ]
   refine wpAnyH_ready (rs:=[3]) (by kernel_rfl) (by simp) ?_
   refine AllReadyH.cons rfl (fun K hK=> ?_) AllReadyH.nil
   go_simp
   go_wp2_with fail
   refine (HCOD.out _ hH.1).mono ?_
   rintro e w8b ⟨rfl,hb8b⟩
   have P8b:=P8.move hb8b
   refine hK.out _ _ (⟨P8b.below,P8b.cel⟩) (fun hH2=> ?_)
   clear hK K hH
   have hH:=hH2
   clear hH2
   try simp only [Act.put,List.setIfInBounds_toArray,List.set_cons_zero,List.set_cons_succ]
   refine Yac 4 (some 47) (v:=?_) rfl rfl (by kernel_rfl) (by kernel_rfl) (by kernel_rfl) (fun _ _ _ h=> h) hH (Or.inl ⟨by kernel_rfl,?_⟩) ?_
   rotate_left
   ·(intro x _;go_simp;try with_reducible rfl)
   rotate_right
   try simp only [Act.put,List.setIfInBounds_toArray,List.set_cons_zero,List.set_cons_succ]
   refine wpAnyH_ready (rs:=[5]) (by kernel_rfl) (by simp) ?_
   refine AllReadyH.cons rfl (fun K hK=> ?_) AllReadyH.nil
   go_simp
   go_wp2_with fail
   refine (HPAT.out _ hH.1).mono ?_
   rintro e w9 ⟨rfl,hb9⟩
   have P9:=P8b.move hb9
   refine hK.out _ _ (⟨P9.below,P9.cel⟩) (fun hH2=> ?_)
   clear hK K hH
   have hH:=hH2
   clear hH2
   try simp only [Act.put,List.setIfInBounds_toArray,List.set_cons_zero,List.set_cons_succ]
   refine Yac 6 (some 42) (v:=?_) rfl rfl (by kernel_rfl) (by kernel_rfl) (by kernel_rfl) (fun _ _ _ h=> h) hH (Or.inl ⟨by kernel_rfl,?_⟩) ?_
   rotate_left
   ·(intro x _;go_simp;try with_reducible rfl)
   rotate_right
   try simp only [Act.put,List.setIfInBounds_toArray,List.set_cons_zero,List.set_cons_succ]
   refine Yac 7 (some 49) (v:=?_) rfl rfl (by kernel_rfl) (by kernel_rfl) (by kernel_rfl) (fun _ _ _ h=> h) hH (Or.inl ⟨by kernel_rfl,?_⟩) ?_
   rotate_left
   ·(intro x _;go_simp;try with_reducible rfl)
   rotate_right
   try simp only [Act.put,List.setIfInBounds_toArray,List.set_cons_zero,List.set_cons_succ]
   refine Yac 8 (some 50) (v:=?_) rfl rfl (by kernel_rfl) (by kernel_rfl) (by kernel_rfl) (fun _ _ _ h=> h) hH (Or.inl ⟨by kernel_rfl,?_⟩) ?_
   rotate_left
   ·(intro x _;go_simp;try with_reducible rfl)
   rotate_right
   try simp only [Act.put,List.setIfInBounds_toArray,List.set_cons_zero,List.set_cons_succ]
   refine Yac 9 (some 51) (v:=?_) rfl rfl (by kernel_rfl) (by kernel_rfl) (by kernel_rfl) (fun _ _ _ h=> h) hH (Or.inl ⟨by kernel_rfl,?_⟩) ?_
   rotate_left
   ·(intro x _;go_simp;try with_reducible rfl)
   rotate_right
   try simp only [Act.put,List.setIfInBounds_toArray,List.set_cons_zero,List.set_cons_succ]
   have PA:=P9.set 3 (.string pr)
   have r0:=Yab (o:=3) P9.rows rfl
   have r1:=Yan (o:=3) P9.rows
   refine wpAnyH_ready (rs:=[10]) (by kernel_rfl) (by simp) ?_
   refine AllReadyH.cons rfl (fun K hK=> ?_) AllReadyH.nil
   go_simp
   refine hK.out _ _ ⟨PA.below,PA.cel⟩ (fun hH2=> ?_)
   clear hK K hH
   have hH:=hH2
   clear hH2
   refine wpAnyH_done (by kernel_rfl) ?_ _
   clear hH
   clear r0 r1
   generalize w9.setCell ⟨R+1+1+1,3,none⟩ (.string pr)=wA at PA ⊢
   obtain ⟨-,-,-,c3,-,-⟩:=CF.out _ PA.cel
   go_wp2_with fail
   refine (HSTP.out _ PA.below).mono ?_
   rintro e wB ⟨rfl,hbB⟩
   have PB:=PA.move hbB
   have PC:=PB.set 4 (.string sr)
   have r0:=Yab (o:=4) PB.rows rfl
   have r1:=Yan (o:=4) PB.rows
   have gC:=PC.cel
   clear c3 hbB
   go_wp2_with (with_reducible refine wpList_load_row rfl 56 _ rfl (R+1) rfl 56 A (0,0) _ gC Tryz.underlying56 rfl HSZ ?_)
   refine (hint _).mono ?_
   rintro e wD ⟨rfl,hbD⟩
   have PD:=PC.move hbD
   clear r0 r1 gC hbD
   cases ik
   ·obtain ⟨-,-,-,-,c4,c5⟩:=CF.out _ PD.cel
    have b0:=Yab (o:=0) PD.pred rfl
    have b1:=Yab (o:=1) PD.pred rfl
    go_wp2_with fail
    refine (HDIF.out (by trivial) (by first | exact hsk | trivial) _).mono ?_
    rintro e wE ⟨rfl,hbE⟩
    have PE:=PD.move hbE
    obtain ⟨D,hD⟩:∃D,wE.heap.size=D:=⟨_,rfl⟩
    have PF:=PE.move ((Below.refl _ wE).alloc (Nat.le_refl _) (.cells #[.int .i64 d0,.int .i64 d1] 51 (0,0)))
    have hDR:R+4≤D:=by have:=PE.size;omega
    have hd:=heap_alloc_new wE (.cells [.int .i64 d0,.int .i64 d1].toArray 51 (0,0))
    rw [hD] at hd
    obtain ⟨wF,hwF⟩:∃wF,wE.alloc (.cells #[.int .i64 d0,.int .i64 d1] 51 (0,0))=wF:=⟨_,rfl⟩
    have hdF:wF.heap[D]? = some (.cells [.int .i64 d0,.int .i64 d1].toArray 51 (0,0)):=hwF▸hd
    have hzF:wF.heap.size=D+1:=by rw [←hwF,←hD];simp
    rw [hwF] at PF
    have HWF:=Lib.hid hwF
    have HD:=Lib.hid hD
    clear c4 c5 b0 b1 hbE hd hwF hD
    go_wp2_with fail
    rw [HWF.out,HD.out]
    refine (HDR.out d0 _ PF.below).mono ?_
    rintro e wG ⟨rfl,hbG⟩
    have PG:=PF.move hbG
    have PH:=PG.set 5 (.string (Yau d0))
    have hdG:=(hbG.block D (by omega)).trans hdF
    have r0:=Yab (o:=5) PG.rows rfl
    have r1:=Yan (o:=5) PG.rows
    have hdH:(wG.setCell ⟨R+1+1+1,5,none⟩ (.string (Yau d0))).heap[D]? = some (.cells [.int .i64 d0,.int .i64 d1].toArray 51 (0,0)):=(Below.heap_setCell wG ⟨R+1+1+1,5,none⟩ (.string (Yau d0)) D (by show D≠R+1+1+1;omega)).trans hdG
    have q1:=Yab (o:=1) hdH rfl
    clear hbG
    go_wp2_with fail
    refine (HDR.out d1 _ PH.below).mono ?_
    rintro e wI ⟨rfl,hbI⟩
    have PI:=PH.move hbI
    have PJ:=PI.set 6 (.string (Yau d1))
    have s0:=Yab (o:=6) PI.rows rfl
    have s1:=Yan (o:=6) PI.rows
    have gres:=PJ.res
    have grow:(wI.setCell ⟨R+1+1+1,6,none⟩ (.string (Yau d1))).heap[R+1+1+1]? = some (.cells V 139 (0,0)):=by rw [←HVV.out,PL.out];exact PJ.rows
    clear r0 r1 q1 hdG hdH hbI
    go_wp2_with (first | (with_reducible refine wpList_load_row rfl 139 _ rfl (R+1+1+1) rfl 139 V (0,0) _ grow Tryz.underlying139 rfl HSV ?_) | (with_reducible refine Yao rfl 139 _ _ rfl (R+1+1) V _ rfl rfl 139 gres HSV HYV HOV ?_;intro wf hhf hgf))
    refine bodyPost_ret (results_cell_row rfl _ _ (R+1+1) 139 _ (0,0) _ rfl hhf Tryz.underlying139 rfl HSV) rfl ?_
    exact ⟨by rw [HVV.out],by rw [HR.out];exact PJ.below.trans (Yc3 hgf (by omega) (by have:=PJ.size;omega))⟩
   ·have gres:=PD.res
    have grow:wD.heap[R+1+1+1]? = some (.cells V 139 (0,0)):=by rw [←HVV.out,PL.out];exact PD.rows
    go_wp2_with (first | (with_reducible refine wpList_load_row rfl 139 _ rfl (R+1+1+1) rfl 139 V (0,0) _ grow Tryz.underlying139 rfl HSV ?_) | (with_reducible refine Yao rfl 139 _ _ rfl (R+1+1) V _ rfl rfl 139 gres HSV HYV HOV ?_;intro wf hhf hgf))
    refine bodyPost_ret (results_cell_row rfl _ _ (R+1+1) 139 _ (0,0) _ rfl hhf Tryz.underlying139 rfl HSV) rfl ?_
    exact ⟨by rw [HVV.out],by rw [HR.out];exact PD.below.trans (Yc3 hgf (by omega) (by have:=PD.size;omega))⟩
  ·rw [hsk] at PL
   go_enter Tryz.func115,Tryz.ntmps115
   go_wp2_with fail
   rw [HS0.out,HR.out]
   refine (hrow5 _).mono ?_
   rintro e w1 ⟨rfl,hb1⟩
   have P1:=hst0.move hb1
   obtain ⟨c0,-,-,-,-,-⟩:=CF.out _ P1.cel
   go_wp2_with fail
   refine (hrep _).mono ?_
   rintro e w2 ⟨rfl,hb2⟩
   have P2:=P1.move hb2
   have P3:=P2.set 0 (.string sN)
   have r0:=Yab (o:=0) P2.rows rfl
   have r1:=Yan (o:=0) P2.rows
   obtain ⟨-,c1,-,-,-,-⟩:=CF.out _ P3.cel
   rw [hsk] at c1
   have r2:=Yab (o:=1) P3.rows rfl
   have r3:=Yan (o:=1) P3.rows
   clear c0 hb1 hb2
   have P4:=P3.set 1 (.string ⟨#[49]⟩)
   have gres:=P4.res
   have grow:((w2.setCell ⟨R+1+1+1,0,none⟩ (.string sN)).setCell ⟨R+1+1+1,1,none⟩ (.string ⟨#[49]⟩)).heap[R+1+1+1]? = some (.cells V 139 (0,0)):=by rw [←HVV.out,PL.out];exact P4.rows
   go_wp2_with (first | (with_reducible refine wpList_load_row rfl 139 _ rfl (R+1+1+1) rfl 139 V (0,0) _ grow Tryz.underlying139 rfl HSV ?_) | (with_reducible refine Yao rfl 139 _ _ rfl (R+1+1) V _ rfl rfl 139 gres HSV HYV HOV ?_;intro wf hhf hgf))
   refine bodyPost_ret (results_cell_row rfl _ _ (R+1+1) 139 _ (0,0) _ rfl hhf Tryz.underlying139 rfl HSV) rfl ?_
   exact ⟨by rw [HVV.out],by rw [HR.out];exact P4.below.trans (Yc3 hgf (by omega) (by have:=P4.size;omega))⟩
 ·simp only [bgS] at hrep PL
  generalize Ybp _ 5 0=s5 at *
  cases hsk:c.skip
  ·rw [hsk] at PL
   go_enter Tryz.func115,Tryz.ntmps115
   go_wp2_with fail
   rw [HS0.out,HR.out]
   refine (hrow5 _).mono ?_
   rintro e w1 ⟨rfl,hb1⟩
   have P1:=hst0.move hb1
   obtain ⟨c0,-,-,-,-,-⟩:=CF.out _ P1.cel
   go_wp2_with fail
   refine (hrep _).mono ?_
   rintro e w2 ⟨rfl,hb2⟩
   have P2:=P1.move hb2
   have P3:=P2.set 0 (.string sN)
   have r0:=Yab (o:=0) P2.rows rfl
   have r1:=Yan (o:=0) P2.rows
   obtain ⟨-,c1,-,-,-,-⟩:=CF.out _ P3.cel
   rw [hsk] at c1
   have r2:=Yab (o:=1) P3.rows rfl
   have r3:=Yan (o:=1) P3.rows
   clear c0 hb1 hb2
   have P4:=P3.set 1 (.string ⟨#[48]⟩)
   go_wp2_with fail
   clear r0 r1 r2 r3 c1
   generalize (w2.setCell ⟨R+1+1+1,0,none⟩ (.string sN)).setCell ⟨R+1+1+1,1,none⟩ (.string ⟨#[48]⟩)=w4 at P4 ⊢
   refine wp_region_held_drew (S:=fun z=> Below R w z∧z.heap[R+1]? = some (.cells A 56 (0,0))) (by kernel_rfl) ⟨P4.below.drew,P4.cel⟩ (fun hH=> ?_)
   refine Yac 0 (some 32) (v:=?_) rfl rfl (by kernel_rfl) (by kernel_rfl) (by kernel_rfl) (fun _ _ _ h=> h) hH (Or.inl ⟨by kernel_rfl,?_⟩) ?_
   rotate_left
   ·(intro x _;go_simp;try with_reducible rfl)
   rotate_right
   try simp only [Act.put,List.setIfInBounds_toArray,List.set_cons_zero,List.set_cons_succ]
   refine Yac 1 (some 33) (v:=?_) rfl rfl (by kernel_rfl) (by kernel_rfl) (by kernel_rfl) (fun _ _ _ h=> h) hH (Or.inl ⟨by kernel_rfl,?_⟩) ?_
   rotate_left
   ·(intro x _;go_simp;try with_reducible rfl)
   rotate_right
   try simp only [Act.put,List.setIfInBounds_toArray,List.set_cons_zero,List.set_cons_succ]
   refine Yac 2 (some 34) (v:=.int .i64 c.kind) rfl rfl (by kernel_rfl) (by kernel_rfl) (by kernel_rfl) (fun _ _ _ h=> h) hH (Or.inl ⟨by kernel_rfl,?_⟩) ?_
   ·(intro x hx;have c0:=(CF.out x hx.2).2.2.1;go_simp)
   try simp only [Act.put,List.setIfInBounds_toArray,List.set_cons_zero,List.set_cons_succ]
   refine Yac 3 (some 35) (v:=.agg A) rfl rfl (by kernel_rfl) (by kernel_rfl) (by kernel_rfl) (fun _ _ _ h=> h) hH (Or.inl ⟨by kernel_rfl,fun x hx=> Ybf (ty:=56) (x:=.tmp 5) (ad:=⟨R+1,0,none⟩) (by kernel_rfl) (by kernel_rfl) (run_loadVar_row x (R+1) _ _ A (0,0) _ (hx.2) Tryz.underlying56 rfl HSZ)⟩) ?_
   try simp only [Act.put,List.setIfInBounds_toArray,List.set_cons_zero,List.set_cons_succ]
   refine wpAnyH_ready (rs:=[4]) (by kernel_rfl) (by simp) ?_
   refine AllReadyH.cons rfl (fun K hK=> ?_) AllReadyH.nil
   go_simp
   go_wp2_with fail
   refine (HCOD.out _ hH.1).mono ?_
   rintro e w5 ⟨rfl,hb5⟩
   have P5:=(P4.move (Below.refl _ w4).drew).move hb5
   refine hK.out _ _ (⟨P5.below,P5.cel⟩) (fun hH2=> ?_)
   clear hK K hH
   have hH:=hH2
   clear hH2
   try simp only [Act.put,List.setIfInBounds_toArray,List.set_cons_zero,List.set_cons_succ]
   refine Yac 5 (some 37) (v:=?_) rfl rfl (by kernel_rfl) (by kernel_rfl) (by kernel_rfl) (fun _ _ _ h=> h) hH (Or.inl ⟨by kernel_rfl,?_⟩) ?_
   rotate_left
   ·(intro x _;go_simp;try with_reducible rfl)
   rotate_right
   try simp only [Act.put,List.setIfInBounds_toArray,List.set_cons_zero,List.set_cons_succ]
   refine wpAnyH_ready (rs:=[6]) (by kernel_rfl) (by simp) ?_
   refine AllReadyH.cons rfl (fun K hK=> ?_) AllReadyH.nil
   go_simp
   go_wp2_with fail
   refine (hrowk _).mono ?_
   rintro e w6 ⟨rfl,hb6⟩
   have P6:=P5.move hb6
   refine hK.out _ _ (⟨P6.below,P6.cel⟩) (fun hH2=> ?_)
   clear hK K hH
   have hH:=hH2
   clear hH2
   try simp only [Act.put,List.setIfInBounds_toArray,List.set_cons_zero,List.set_cons_succ]
   refine Yac 7 (some 31) (v:=?_) rfl rfl (by kernel_rfl) (by kernel_rfl) (by kernel_rfl) (fun _ _ _ h=> h) hH (Or.inl ⟨by kernel_rfl,?_⟩) ?_
   rotate_left
   ·(intro x _;go_simp;try with_reducible rfl)
   rotate_right
   try simp only [Act.put,List.setIfInBounds_toArray,List.set_cons_zero,List.set_cons_succ]
   refine Yac 8 (some 39) (v:=?_) rfl rfl (by kernel_rfl) (by kernel_rfl) (by kernel_rfl) (fun _ _ _ h=> h) hH (Or.inl ⟨by kernel_rfl,?_⟩) ?_
   rotate_left
   ·(intro x _;go_simp;try with_reducible rfl)
   rotate_right
   try simp only [Act.put,List.setIfInBounds_toArray,List.set_cons_zero,List.set_cons_succ]
   refine Yac 9 (some 40) (v:=?_) rfl rfl (by kernel_rfl) (by kernel_rfl) (by kernel_rfl) (fun _ _ _ h=> h) hH (Or.inl ⟨by kernel_rfl,?_⟩) ?_
   rotate_left
   ·(intro x _;go_simp;try with_reducible rfl)
   rotate_right
   try simp only [Act.put,List.setIfInBounds_toArray,List.set_cons_zero,List.set_cons_succ]
   refine Yac 10 (some 41) (v:=?_) rfl rfl (by kernel_rfl) (by kernel_rfl) (by kernel_rfl) (fun _ _ _ h=> h) hH (Or.inl ⟨by kernel_rfl,?_⟩) ?_
   rotate_left
   ·(intro x _;go_simp;try with_reducible rfl)
   rotate_right
   try simp only [Act.put,List.setIfInBounds_toArray,List.set_cons_zero,List.set_cons_succ]
   have P7:=P6.set 2 (.string kr)
   have r0:=Yab (o:=2) P6.rows rfl
   have r1:=Yan (o:=2) P6.rows
   refine wpAnyH_ready (rs:=[11]) (by kernel_rfl) (by simp) ?_
   refine AllReadyH.cons rfl (fun K hK=> ?_) AllReadyH.nil
   go_simp
   refine hK.out _ _ ⟨P7.below,P7.cel⟩ (fun hH2=> ?_)
   clear hK K hH
   have hH:=hH2
   clear hH2
   refine wpAnyH_done (by kernel_rfl) ?_ _
   clear hH
   clear r0 r1
   generalize w6.setCell ⟨R+1+1+1,2,none⟩ (.string kr)=w7 at P7 ⊢
   go_wp2_with fail
   refine wp_region_held_drew (S:=fun z=> Below R w z∧z.heap[R+1]? = some (.cells A 56 (0,0))) (by kernel_rfl) ⟨P7.below.drew,P7.cel⟩ (fun hH=> ?_)
   refine Yac 0 (some 43) (v:=.agg A) rfl rfl (by kernel_rfl) (by kernel_rfl) (by kernel_rfl) (fun _ _ _ h=> h) hH (Or.inl ⟨by kernel_rfl,fun x hx=> Ybf (ty:=56) (x:=.tmp 5) (ad:=⟨R+1,0,none⟩) (by kernel_rfl) (by kernel_rfl) (run_loadVar_row x (R+1) _ _ A (0,0) _ (hx.2) Tryz.underlying56 rfl HSZ)⟩) ?_
   try simp only [Act.put,List.setIfInBounds_toArray,List.set_cons_zero,List.set_cons_succ]
   refine Yac 2 (some 45) (v:=.agg A) rfl rfl (by kernel_rfl) (by kernel_rfl) (by kernel_rfl) (fun _ _ _ h=> h) hH (Or.inl ⟨by kernel_rfl,fun x hx=> Ybf (ty:=56) (x:=.tmp 5) (ad:=⟨R+1,0,none⟩) (by kernel_rfl) (by kernel_rfl) (run_loadVar_row x (R+1) _ _ A (0,0) _ (hx.2) Tryz.underlying56 rfl HSZ)⟩) ?_
   try simp only [Act.put,List.setIfInBounds_toArray,List.set_cons_zero,List.set_cons_succ]
   refine wpAnyH_ready (rs:=[1]) (by kernel_rfl) (by simp) ?_
   refine AllReadyH.cons rfl (fun K hK=> ?_) AllReadyH.nil
   go_simp
   go_wp2_with fail
   refine (hint _).mono ?_
   rintro e w8 ⟨rfl,hb8⟩
   have P8:=(P7.move (Below.refl _ w7).drew).move hb8
   refine hK.out _ _ (⟨P8.below,P8.cel⟩) (fun hH2=> ?_)
   clear hK K hH
   have hH:=hH2
   clear hH2
   try simp only [Act.put,List.setIfInBounds_toArray,List.set_cons_zero,List.set_cons_succ]
   refine wpAnyH_ready (rs:=[3]) (by kernel_rfl) (by simp) ?_
   refine AllReadyH.cons rfl (fun K hK=> ?_) AllReadyH.nil
   go_simp
   go_wp2_with fail
   refine (HCOD.out _ hH.1).mono ?_
   rintro e w8b ⟨rfl,hb8b⟩
   have P8b:=P8.move hb8b
   refine hK.out _ _ (⟨P8b.below,P8b.cel⟩) (fun hH2=> ?_)
   clear hK K hH
   have hH:=hH2
   clear hH2
   try simp only [Act.put,List.setIfInBounds_toArray,List.set_cons_zero,List.set_cons_succ]
   refine Yac 4 (some 47) (v:=?_) rfl rfl (by kernel_rfl) (by kernel_rfl) (by kernel_rfl) (fun _ _ _ h=> h) hH (Or.inl ⟨by kernel_rfl,?_⟩) ?_
   rotate_left
   ·(intro x _;go_simp;try with_reducible rfl)
   rotate_right
   try simp only [Act.put,List.setIfInBounds_toArray,List.set_cons_zero,List.set_cons_succ]
   refine wpAnyH_ready (rs:=[5]) (by kernel_rfl) (by simp) ?_
   refine AllReadyH.cons rfl (fun K hK=> ?_) AllReadyH.nil
   go_simp
   go_wp2_with fail
   refine (HPAT.out _ hH.1).mono ?_
   rintro e w9 ⟨rfl,hb9⟩
   have P9:=P8b.move hb9
   refine hK.out _ _ (⟨P9.below,P9.cel⟩) (fun hH2=> ?_)
   clear hK K hH
   have hH:=hH2
   clear hH2
   try simp only [Act.put,List.setIfInBounds_toArray,List.set_cons_zero,List.set_cons_succ]
   refine Yac 6 (some 42) (v:=?_) rfl rfl (by kernel_rfl) (by kernel_rfl) (by kernel_rfl) (fun _ _ _ h=> h) hH (Or.inl ⟨by kernel_rfl,?_⟩) ?_
   rotate_left
   ·(intro x _;go_simp;try with_reducible rfl)
   rotate_right
   try simp only [Act.put,List.setIfInBounds_toArray,List.set_cons_zero,List.set_cons_succ]
   refine Yac 7 (some 49) (v:=?_) rfl rfl (by kernel_rfl) (by kernel_rfl) (by kernel_rfl) (fun _ _ _ h=> h) hH (Or.inl ⟨by kernel_rfl,?_⟩) ?_
   rotate_left
   ·(intro x _;go_simp;try with_reducible rfl)
   rotate_right
   try simp only [Act.put,List.setIfInBounds_toArray,List.set_cons_zero,List.set_cons_succ]
   refine Yac 8 (some 50) (v:=?_) rfl rfl (by kernel_rfl) (by kernel_rfl) (by kernel_rfl) (fun _ _ _ h=> h) hH (Or.inl ⟨by kernel_rfl,?_⟩) ?_
   rotate_left
   ·(intro x _;go_simp;try with_reducible rfl)
   rotate_right
   try simp only [Act.put,List.setIfInBounds_toArray,List.set_cons_zero,List.set_cons_succ]
   refine Yac 9 (some 51) (v:=?_) rfl rfl (by kernel_rfl) (by kernel_rfl) (by kernel_rfl) (fun _ _ _ h=> h) hH (Or.inl ⟨by kernel_rfl,?_⟩) ?_
   rotate_left
   ·(intro x _;go_simp;try with_reducible rfl)
   rotate_right
   try simp only [Act.put,List.setIfInBounds_toArray,List.set_cons_zero,List.set_cons_succ]
   have PA:=P9.set 3 (.string pr)
   have r0:=Yab (o:=3) P9.rows rfl
   have r1:=Yan (o:=3) P9.rows
   refine wpAnyH_ready (rs:=[10]) (by kernel_rfl) (by simp) ?_
   refine AllReadyH.cons rfl (fun K hK=> ?_) AllReadyH.nil
   go_simp
   refine hK.out _ _ ⟨PA.below,PA.cel⟩ (fun hH2=> ?_)
   clear hK K hH
   have hH:=hH2
   clear hH2
   refine wpAnyH_done (by kernel_rfl) ?_ _
   clear hH
   clear r0 r1
   generalize w9.setCell ⟨R+1+1+1,3,none⟩ (.string pr)=wA at PA ⊢
   obtain ⟨-,-,-,c3,-,-⟩:=CF.out _ PA.cel
   go_wp2_with fail
   refine (HSTP.out _ PA.below).mono ?_
   rintro e wB ⟨rfl,hbB⟩
   have PB:=PA.move hbB
   have PC:=PB.set 4 (.string sr)
   have r0:=Yab (o:=4) PB.rows rfl
   have r1:=Yan (o:=4) PB.rows
   have gC:=PC.cel
   clear c3 hbB
   go_wp2_with (with_reducible refine wpList_load_row rfl 56 _ rfl (R+1) rfl 56 A (0,0) _ gC Tryz.underlying56 rfl HSZ ?_)
   refine (hint _).mono ?_
   rintro e wD ⟨rfl,hbD⟩
   have PD:=PC.move hbD
   clear r0 r1 gC hbD
   cases ik
   ·obtain ⟨-,-,-,-,c4,c5⟩:=CF.out _ PD.cel
    have b0:=Yab (o:=0) PD.pred rfl
    have b1:=Yab (o:=1) PD.pred rfl
    go_wp2_with fail
    refine (HDIF.out (by trivial) (by first | exact hsk | trivial) _).mono ?_
    rintro e wE ⟨rfl,hbE⟩
    have PE:=PD.move hbE
    obtain ⟨D,hD⟩:∃D,wE.heap.size=D:=⟨_,rfl⟩
    have PF:=PE.move ((Below.refl _ wE).alloc (Nat.le_refl _) (.cells #[.int .i64 d0,.int .i64 d1] 51 (0,0)))
    have hDR:R+4≤D:=by have:=PE.size;omega
    have hd:=heap_alloc_new wE (.cells [.int .i64 d0,.int .i64 d1].toArray 51 (0,0))
    rw [hD] at hd
    obtain ⟨wF,hwF⟩:∃wF,wE.alloc (.cells #[.int .i64 d0,.int .i64 d1] 51 (0,0))=wF:=⟨_,rfl⟩
    have hdF:wF.heap[D]? = some (.cells [.int .i64 d0,.int .i64 d1].toArray 51 (0,0)):=hwF▸hd
    have hzF:wF.heap.size=D+1:=by rw [←hwF,←hD];simp
    rw [hwF] at PF
    have HWF:=Lib.hid hwF
    have HD:=Lib.hid hD
    clear c4 c5 b0 b1 hbE hd hwF hD
    go_wp2_with fail
    rw [HWF.out,HD.out]
    refine (HDR.out d0 _ PF.below).mono ?_
    rintro e wG ⟨rfl,hbG⟩
    have PG:=PF.move hbG
    have PH:=PG.set 5 (.string (Yau d0))
    have hdG:=(hbG.block D (by omega)).trans hdF
    have r0:=Yab (o:=5) PG.rows rfl
    have r1:=Yan (o:=5) PG.rows
    have hdH:(wG.setCell ⟨R+1+1+1,5,none⟩ (.string (Yau d0))).heap[D]? = some (.cells [.int .i64 d0,.int .i64 d1].toArray 51 (0,0)):=(Below.heap_setCell wG ⟨R+1+1+1,5,none⟩ (.string (Yau d0)) D (by show D≠R+1+1+1;omega)).trans hdG
    have q1:=Yab (o:=1) hdH rfl
    clear hbG
    go_wp2_with fail
    refine (HDR.out d1 _ PH.below).mono ?_
    rintro e wI ⟨rfl,hbI⟩
    have PI:=PH.move hbI
    have PJ:=PI.set 6 (.string (Yau d1))
    have s0:=Yab (o:=6) PI.rows rfl
    have s1:=Yan (o:=6) PI.rows
    have gres:=PJ.res
    have grow:(wI.setCell ⟨R+1+1+1,6,none⟩ (.string (Yau d1))).heap[R+1+1+1]? = some (.cells V 139 (0,0)):=by rw [←HVV.out,PL.out];exact PJ.rows
    clear r0 r1 q1 hdG hdH hbI
    go_wp2_with (first | (with_reducible refine wpList_load_row rfl 139 _ rfl (R+1+1+1) rfl 139 V (0,0) _ grow Tryz.underlying139 rfl HSV ?_) | (with_reducible refine Yao rfl 139 _ _ rfl (R+1+1) V _ rfl rfl 139 gres HSV HYV HOV ?_;intro wf hhf hgf))
    refine bodyPost_ret (results_cell_row rfl _ _ (R+1+1) 139 _ (0,0) _ rfl hhf Tryz.underlying139 rfl HSV) rfl ?_
    exact ⟨by rw [HVV.out],by rw [HR.out];exact PJ.below.trans (Yc3 hgf (by omega) (by have:=PJ.size;omega))⟩
   ·have gres:=PD.res
    have grow:wD.heap[R+1+1+1]? = some (.cells V 139 (0,0)):=by rw [←HVV.out,PL.out];exact PD.rows
    go_wp2_with (first | (with_reducible refine wpList_load_row rfl 139 _ rfl (R+1+1+1) rfl 139 V (0,0) _ grow Tryz.underlying139 rfl HSV ?_) | (with_reducible refine Yao rfl 139 _ _ rfl (R+1+1) V _ rfl rfl 139 gres HSV HYV HOV ?_;intro wf hhf hgf))
    refine bodyPost_ret (results_cell_row rfl _ _ (R+1+1) 139 _ (0,0) _ rfl hhf Tryz.underlying139 rfl HSV) rfl ?_
    exact ⟨by rw [HVV.out],by rw [HR.out];exact PD.below.trans (Yc3 hgf (by omega) (by have:=PD.size;omega))⟩
  ·rw [hsk] at PL
   go_enter Tryz.func115,Tryz.ntmps115
   go_wp2_with fail
   rw [HS0.out,HR.out]
   refine (hrow5 _).mono ?_
   rintro e w1 ⟨rfl,hb1⟩
   have P1:=hst0.move hb1
   obtain ⟨c0,-,-,-,-,-⟩:=CF.out _ P1.cel
   go_wp2_with fail
   refine (hrep _).mono ?_
   rintro e w2 ⟨rfl,hb2⟩
   have P2:=P1.move hb2
   have P3:=P2.set 0 (.string sN)
   have r0:=Yab (o:=0) P2.rows rfl
   have r1:=Yan (o:=0) P2.rows
   obtain ⟨-,c1,-,-,-,-⟩:=CF.out _ P3.cel
   rw [hsk] at c1
   have r2:=Yab (o:=1) P3.rows rfl
   have r3:=Yan (o:=1) P3.rows
   clear c0 hb1 hb2
   have P4:=P3.set 1 (.string ⟨#[49]⟩)
   have gres:=P4.res
   have grow:((w2.setCell ⟨R+1+1+1,0,none⟩ (.string sN)).setCell ⟨R+1+1+1,1,none⟩ (.string ⟨#[49]⟩)).heap[R+1+1+1]? = some (.cells V 139 (0,0)):=by rw [←HVV.out,PL.out];exact P4.rows
   go_wp2_with (first | (with_reducible refine wpList_load_row rfl 139 _ rfl (R+1+1+1) rfl 139 V (0,0) _ grow Tryz.underlying139 rfl HSV ?_) | (with_reducible refine Yao rfl 139 _ _ rfl (R+1+1) V _ rfl rfl 139 gres HSV HYV HOV ?_;intro wf hhf hgf))
   refine bodyPost_ret (results_cell_row rfl _ _ (R+1+1) 139 _ (0,0) _ rfl hhf Tryz.underlying139 rfl HSV) rfl ?_
   exact ⟨by rw [HVV.out],by rw [HR.out];exact P4.below.trans (Yc3 hgf (by omega) (by have:=P4.size;omega))⟩
def Ymg (l:List ByteArray):List UInt8:=(l.map (·.data.toList)).flatten
theorem Ytf (l:List ByteArray) (x:ByteArray):Ymg (l ++ [x])=Ymg l++x.data.toList:=by simp [Ymg]
theorem Yj3 {c:Cel} (h:Yfz c=true):Ydx c=true∧Ydw c 6 = []:=by
 unfold Yfz at h
 simp only [Bool.and_eq_true,beq_iff_eq,List.all_eq_true,List.mem_range,decide_eq_true_eq] at h
 obtain ⟨⟨⟨k0,_⟩,_⟩,hd,he⟩:=h
 have he2:∀i,i<6→c.ev i = []:=fun i hi=> List.eq_nil_of_length_eq_zero (he i hi)
 refine ⟨Ye2.2 fun i hi=> ?_,?_⟩
 ·rw [k0,hd i hi,he2 i hi];rfl
 ·simp only [Ydw,k0,hd 0 (by omega),hd 1 (by omega),hd 2 (by omega),hd 3 (by omega),hd 4 (by omega),hd 5 (by omega),he2 0 (by omega),he2 1 (by omega),he2 2 (by omega),he2 3 (by omega),he2 4 (by omega),he2 5 (by omega)]
  rfl
theorem Yht {inter:Bool} {c:Cel} (h:Ya7 inter c=true):Ydx c=true:=by
 unfold Ya7 at h
 rw [Bool.and_eq_true] at h
 cases hs:c.skip with
 | true=>
  rw [hs,if_pos rfl] at h
  exact (Yj3 (Bool.and_eq_true_iff.1 h.2).2).1
 | false=>
  rw [hs,if_neg (by decide)] at h
  exact (Bool.and_eq_true_iff.1 (Bool.and_eq_true_iff.1 h.2).2).2
theorem Ynk {inter:Bool} {x y:Int} {c:Cel} (h:Ya7 inter c=true):Ymg (Yfx inter x y c)++Ydw c 6=Ybx inter x y c:=by
 unfold Ya7 at h
 rw [Bool.and_eq_true] at h
 unfold Ybx Yfx Yxb
 cases hs:c.skip with
 | true=>
  rw [hs,if_pos rfl] at h
  rw [(Yj3 (Bool.and_eq_true_iff.1 h.2).2).2]
  simp [Ymg]
 | false=> cases hk:Yaj c.kind <;> simp [Ymg]
theorem Yr2 (inter:Bool) (x y:Int) (c:Cel):∀s∈Yfx inter x y c,Yat s.data.toList=true:=by
 intro s hs
 unfold Yfx at hs
 rw [List.mem_cons] at hs
 rcases hs with rfl | hs
 ·exact (Yef inter _).1
 ·split at hs
  ·simp only [List.mem_cons,List.not_mem_nil,or_false] at hs
   rcases hs with rfl | rfl | rfl | rfl | rfl | rfl <;> rfl
  ·rw [List.mem_append] at hs
   rcases hs with hs | hs
   ·simp only [List.mem_cons,List.not_mem_nil,or_false] at hs
    rcases hs with rfl | rfl | rfl | rfl
    ·exact (Ygx inter).1
    ·exact (Ydr _ _ _).1
    ·exact (Yhf _ _).1
    ·exact (Yes _).1
   ·split at hs
    ·simp only [List.mem_cons,List.not_mem_nil,or_false] at hs
     rcases hs with rfl | rfl <;> rfl
    ·simp only [List.mem_cons,List.not_mem_nil,or_false] at hs
     rcases hs with rfl | rfl
     ·exact (Ydh _).1
     ·exact (Ydh _).1
theorem Yy3 (a b c d e f g:ByteArray) (w:World):∀(i:Nat) (hi:i < [a,b,c,d,e,f,g].length),(Instr.index 139 (.agg #[.string a,.string b,.string c,.string d,.string e,.string f,.string g]) (.int .i64 (i:Nat))).run Tryz.prog w = .ok (.string ([a,b,c,d,e,f,g][i]'hi)) w
 | 0,_=> by kernel_rfl
 | 1,_=> by kernel_rfl
 | 2,_=> by kernel_rfl
 | 3,_=> by kernel_rfl
 | 4,_=> by kernel_rfl
 | 5,_=> by kernel_rfl
 | 6,_=> by kernel_rfl
 | k+7,h=> absurd h (by simp)
theorem Yzb {l:List ByteArray} (h:l.length=7):∃a b c d e f g,l = [a,b,c,d,e,f,g]:=by
 match l,h with
 | [a,b,c,d,e,f,g],_=> exact ⟨a,b,c,d,e,f,g,rfl⟩
theorem Ytg (l:List ByteArray) (i:Nat):(Ymg (l.take i)).length≤(Ymg l).length:=by
 have h:Ymg l=Ymg (l.take i)++Ymg (l.drop i):=by
  unfold Ymg
  rw [←List.flatten_append,←List.map_append,List.take_append_drop]
 rw [h,List.length_append]
 omega
theorem Yl5 {inter:Bool} {c:Cel} (h:Ya7 inter c=true) (x y:Int):(Ybx inter x y c).length≤20000:=by
 refine Yq7 ?_ fun i hi=> ?_
 ·unfold Ya7 at h
  rw [Bool.and_eq_true,Bool.and_eq_true,decide_eq_true_iff,decide_eq_true_iff] at h
  omega
 ·have h1:=Yfk (Ydk (Ye2.1 (Yht h) i hi)).2
  omega
set_option maxRecDepth 100000 in
set_option maxHeartbeats 2000000 in
theorem Yxz (inter:Bool) (x y:Int) (c:Cel) (p:Nat→Option Addr) (n k:Nat→Nat) (B b:Nat) (r:List UInt8) (w:World) (hw:Ybm w B b r) (hr:r.length≤68719476736) (hB:B≤w.heap.size) (hfar:∀z,w.grownBy z (some b)→Ybn z.heap.size z∧Yfu z c p n) (hm:Ya7 inter c=true):
  Calls Tryz.prog 89 #[.pointer (some ⟨b,0,none⟩),.bool inter,.agg #[.int .i64 x,.int .i64 y],.agg (Ycs c fun i=> .slice (p i) (n i) (k i)).toArray] w fun e w'=> e = .returned (.int .i64 0)∧Ybm w' B b (r++Ybx inter x y c)∧w.grownBy w' (some b):=by
 have hbR:b<w.heap.size:=hw.lt
 have hri:∀z,w.grownBy z (some b)→Calls Tryz.prog 75 #[.bool inter,.agg (Ycs c fun i=> .slice (p i) (n i) (k i)).toArray] z fun e w'=> e = .returned (.bool true)∧Below z.heap.size z w':=fun z hz=> by
  obtain ⟨h1,h2⟩:=hfar z hz
  rw [←hm]
  exact Yiw inter c p n k z h2 h1.tcoef h1.steps
 have hpa:∀z,w.grownBy z (some b)→Calls Tryz.prog 115 #[.bool inter,.agg #[.int .i64 x,.int .i64 y],.agg (Ycs c fun i=> .slice (p i) (n i) (k i)).toArray] z fun e w'=> e = .returned (.agg ((Yfx inter x y c).map Value.string).toArray)∧Below z.heap.size z w':=fun z hz=> by
  obtain ⟨h1,h2⟩:=hfar z hz
  exact Yr1 inter x y c p n k z h2 h1 hm
 have hln:∀i,(Ymg ((Yfx inter x y c).take i)).length≤20000:=by
  intro i
  have h1:=congrArg List.length (Ynk (x:=x) (y:=y) hm)
  have h2:=Yl5 hm x y
  have h3:=Ytg (Yfx inter x y c) i
  rw [List.length_append] at h1
  omega
 have hpb:∀z,w.grownBy z (some b)→Ybm z B b (r++Ymg (Yfx inter x y c))→Calls Tryz.prog 116 #[.pointer (some ⟨b,0,none⟩),.agg (Ycs c fun i=> .slice (p i) (n i) (k i)).toArray] z fun e w'=> Ybm w' B b (r++Ybx inter x y c)∧z.grownBy w' (some b)∧e = .returned (.int .i64 0):=fun z hz hwz=> by
  have hl:=hln 7
  rw [List.take_of_length_le (Nat.le_of_eq (Yjj inter x y c))] at hl
  refine (Yf6 c p n k B b _ z hwz (by rw [List.length_append];omega) (Nat.le_trans hB hz.size) (fun x hx=> ⟨(hfar x (Yai hz hx)).1.tcoef,(hfar x (Yai hz hx)).2⟩)).mono ?_
  rintro e w' ⟨i,h1,h2,h3,h4⟩
  rcases h4 with ⟨rfl,_,rfl⟩ | ⟨h5,_⟩
  ·rw [List.append_assoc,Ynk hm] at h2
   exact ⟨h2,h3,rfl⟩
  ·rw [Yht hm] at h5
   cases h5
 have hRW:=Yr2 inter x y c
 have hL7:=Yjj inter x y c
 have HSZ:=Ye4 c fun i=> .slice (p i) (n i) (k i)
 generalize (Ycs c fun i=> .slice (p i) (n i) (k i)).toArray=A at *
 obtain ⟨R,w1,w2,hR,hw1,hw2,hz1,hz2,hC0,hC1,hbC⟩:=Yrr w (.cells #[.int .i64 x,.int .i64 y] 51 (0,0)) (.cells A 56 (0,0))
 have HW1:=Lib.hid hw1
 have HW2:=Lib.hid hw2
 have HR:=Lib.hid hR
 have hg2:w.grownBy w2 (some b):=Yaq (hR▸hbC) _
 have HRI:=Lib.hid hri
 have HPA:=Lib.hid hpa
 have HPB:=Lib.hid hpb
 have HLN:=Lib.hid hln
 have hwr2:Ybm w2 B b r:=hw.below (hR▸hbC)
 have hRb:b<R:=by omega
 have hRB:B≤R:=by omega
 generalize Yfx inter x y c=L at *
 generalize Ybx inter x y c=CR at *
 obtain ⟨l0,l1,l2,l3,l4,l5,l6,hL⟩:=Yzb hL7
 have HL:=Lib.hid hL
 have IDX:=Lib.hid (fun i hi z=> Yy3 l0 l1 l2 l3 l4 l5 l6 z i hi)
 clear hri hpa hpb hln hfar hm hw1 hw2 hw hbC hR hL hL7
 go_enter Tryz.func89,Tryz.ntmps89
 go_wp2_with (with_reducible refine wpList_load_row rfl 56 _ rfl (w.heap.size+1) rfl 56 A (0,0) _ (Yqt w _ _) Tryz.underlying56 rfl HSZ ?_)
 rw [HW1.out,HW2.out,HR.out]
 refine (HRI.out _ hg2).mono ?_
 rintro e w3 ⟨rfl,hb3⟩
 have hg3:=Yai hg2 (Yaq hb3 (some b))
 have hwr3:=hwr2.below hb3
 have k0:w3.heap[R]? = some (.cells [.int .i64 x,.int .i64 y].toArray 51 (0,0)):=(hb3.block R (by omega)).trans hC0
 have k1:=(hb3.block (R+1) (by omega)).trans hC1
 have b0:=Yab (o:=0) k0 rfl
 have b1:=Yab (o:=1) k0 rfl
 have hz3:=hb3.size
 clear hC0 hC1 hwr2 hg2
 go_wp2_with (with_reducible refine wpList_load_row rfl 56 _ rfl (R+1) rfl 56 A (0,0) _ k1 Tryz.underlying56 rfl HSZ ?_)
 refine (HPA.out _ hg3).mono ?_
 rintro e w4 ⟨rfl,hb4⟩
 have hg4:=Yai hg3 (Yaq hb4 (some b))
 have hwr4:=hwr3.below hb4
 have k4:=(hb4.block (R+1) (by omega)).trans k1
 have hz4:=hb4.size
 rw [HL.out]
 simp only [List.map_cons,List.map_nil]
 clear k0 k1 b0 b1 hwr3 hg3 hb3 hb4
 go_wp2
 go_loopw [21] (fun z wr=>∃i:Nat,i≤7∧z = .int .i64 i∧Ybm wr B b (r++Ymg (L.take i))∧w.grownBy wr (some b)∧wr.heap[R+1]? = some (.cells A 56 (0,0))) (fun z _=> 7-(RowKit.intOf z).toNat)
 case atStart=> exact ⟨0,by omega,rfl,by rw [List.take_zero];exact (List.append_nil r).symm▸hwr4,hg4,k4⟩
 case round=>
  clear hwr4 hg4 k4
  obtain ⟨i,hi7,rfl,hwr,hg,hk⟩:=hrel
  have hzR:R+1<wr.heap.size:=(Array.getElem?_eq_some_iff.1 hk).1
  by_cases hlt:i<7
  ·have t0:decide ((i:Int)<7)=true:=by simp;omega
   have hiL:i<L.length:=by rw [HL.out];exact hlt
   have i0:=IDX.out i hlt
   obtain ⟨s,hs⟩:∃s,[l0,l1,l2,l3,l4,l5,l6][i]'hlt=s:=⟨_,rfl⟩
   rw [hs] at i0
   have hsL:L[i]=s:=by rw [←hs];simp only [HL.out]
   have hrow:Yat s.data.toList=true:=hsL▸hRW _ (List.getElem_mem hiL)
   have hnx:Ymg (L.take (i+1))=Ymg (L.take i)++s.data.toList:=by rw [List.take_succ_eq_append_getElem hiL,Ytf,hsL]
   have hlen:=HLN.out (i+1)
   rw [hnx,List.length_append] at hlen
   have hln2:s.data.toList.length=s.size:=rfl
   have hadd:=Yig wr B b (r++Ymg (L.take i)) s hwr hrow (by rw [List.length_append];omega) (by have:=hg.size;omega)
   have NX:=Lib.hid hnx
   clear hnx hlen hln2 hrow hsL hs hwr
   go_wp2_with fail
   refine hadd.mono ?_
   rintro e w5 ⟨rfl,hwr5,hg5⟩
   rw [List.append_assoc,←NX.out] at hwr5
   have hg6:=Yai hg hg5
   have hk5:=(hg5.block (R+1) hzR (fun h=> by injection h with h;omega)).trans hk
   clear hadd
   go_wp2
   go_roundw
   case rel=> exact ⟨i+1,by omega,by go_num,hwr5,hg6,hk5⟩
   case measure=> simp [RowKit.intOf];omega
  ·obtain rfl:i=7:=by omega
   have hL:L.take 7=L:=by rw [HL.out];rfl
   rw [hL] at hwr
   clear hL
   go_wp2_with (with_reducible refine wpList_load_row rfl 56 _ rfl (R+1) rfl 56 A (0,0) _ hk Tryz.underlying56 rfl HSZ ?_)
   refine (HPB.out _ hg hwr).mono ?_
   rintro e w5 ⟨hwr5,hg5,rfl⟩
   have hg6:=Yai hg hg5
   go_wp2
   go_ret
   exact ⟨rfl,hwr5,hg6⟩
def Ybr (l:List UInt8):ByteArray:=⟨l.toArray⟩
theorem Ybw (l:List UInt8) (s:ByteArray):Ybr l++s=Ybr (l++s.data.toList):=Yln.2 (by simp [Ybr])
theorem Ya8 (l:List UInt8):(Ybr l).size=l.length:=by simp [Ybr,ByteArray.size]
theorem Ypn (inter:Bool) (n:Nat):Ybq inter (n+1)=Ybq inter n++Yh9 inter:=by
 unfold Ybq
 rw [List.replicate_succ',List.flatten_append,List.flatten_singleton]
theorem Ypx (inter:Bool):(bgS inter).data.toList=Yta inter:=by cases inter <;> rfl
def Ydu (x y:Int) (c:Cel):Nat→List UInt8
 | 0=> []
 | 1=> (Yau (Ya5 (c.mx-Ya5 x))).data.toList
 | _=> (Yau (Ya5 (c.mx-Ya5 x))).data.toList++(Yau (Ya5 (c.my-Ya5 y))).data.toList
theorem Ywg {inter:Bool} {k:Int} (h:Yey inter k=true):decide (k<2) = !Yaj k:=by
 have hk:k=3∨k=4∨(inter=true∧(k=0∨k=1)):=by
  unfold Yey at h
  simpa [or_assoc] using h
 rcases hk with rfl | rfl | ⟨_,rfl | rfl⟩ <;> rfl
set_option maxRecDepth 100000 in
set_option maxHeartbeats 8000000 in
theorem Ytl (inter:Bool) (x y:Int) (c:Cel) (p:Nat→Option Addr) (n k:Nat→Nat) (w:World) (hc:Yfu w c p n) (hm:Ya7 inter c=true):
  Calls Tryz.prog 41 #[.bool inter,.agg #[.int .i64 x,.int .i64 y],.agg (Ycs c fun i=> .slice (p i) (n i) (k i)).toArray] w fun e w'=> e = .returned (.string (Ybr (Ybx inter x y c)))∧Below w.heap.size w w':=by
 have hm0:=hm
 have hlen:=Yl5 hm x y
 unfold Ya7 at hm
 rw [Bool.and_eq_true,Bool.and_eq_true,decide_eq_true_iff,decide_eq_true_iff] at hm
 obtain ⟨hst,hm2⟩:=hm
 obtain ⟨ns,hns⟩:∃ns:Nat,c.stuff=(ns:Int):=⟨c.stuff.toNat,by omega⟩
 have hns64:ns≤64:=by omega
 have hbk:=Ye2.1 (Yht hm0)
 obtain ⟨cl1,cl2,cl3⟩:=Yxi c
 have hr5:(Ybp inter 5 0).size≤9:=(Ydr inter 5 0).2
 have hrk:(Ybp inter c.kind (Yg0 c:Nat)).size≤9:=(Ydr inter _ _).2
 have hpr:(Ydg (Yaj c.kind) (Yc7 c 4:Nat)).size≤6:=(Yhf _ _).2
 have hsr:(Yax c.step).size≤2:=(Yes _).2
 have hbg:(bgS inter).size≤1:=by cases inter <;> decide
 have hd0:(Yau (Ya5 (c.mx-Ya5 x))).size≤13:=(Ydh _).2
 have hd1:(Yau (Ya5 (c.my-Ya5 y))).size≤13:=(Ydh _).2
 have STF:=Lib.hid (fun i=> (Yef inter i).2)
 have BLN:=Lib.hid (fun i (hi:i≤6)=> (by
  have h:=Yih (c:=c) (n:=64) i fun j hj=> Yfk (Ydk (hbk j (by omega))).2
  have h2:(8+22*64)*i≤(8+22*64)*6:=Nat.mul_le_mul_left _ hi
  omega:(Ydw c i).length≤8496))
 have hrow5:=fun z=> Ynt inter 5 0 z
 have hrowk:=fun z=> Ynt inter c.kind (Yg0 c:Nat) z
 have hpat:=fun z=> Yus (Yaj c.kind) (Yc7 c 4:Nat) z
 have hstp:=fun z=> Yn3 c.step z
 have hint:=fun z=> Ygl c.kind z
 have hdr:=fun d z=> Ytt d z
 have hwr:=fun m z=> Yvo m z
 have hbl:=fun i (hi:i<6) z (hz:Below w.heap.size w z)=> Ytc (Yaj c.kind) (c.dc i) (p i) (c.ev i) (k i) z ((hc i hi).2.2.below hz) (hbk i hi)
 have NL:=Lib.hid (fun i hi=> (hc i hi).1)
 have CR:Hid (Ybx inter x y c=Ybq inter ns++(if c.skip then [49] else Yta inter++(Ybp inter c.kind (Yg0 c:Nat)).data.toList++(Ydg (Yaj c.kind) (Yc7 c 4:Nat)).data.toList++(Yax c.step).data.toList++Yxb c.kind x y c.mx c.my++Ydw c 6)):=Lib.hid (by unfold Ybx;rw [hns,Int.toNat_natCast])
 have KT:Hid (c.skip=false→decide (c.kind<2) = !Yaj c.kind):=Lib.hid (fun hs=> by
  rw [hs,if_neg (by decide),Bool.and_eq_true,Bool.and_eq_true] at hm2
  exact Ywg hm2.1.1)
 have MV:Hid (c.skip=false→(-32≤c.mx∧c.mx≤31)∧-32≤c.my∧c.my≤31):=Lib.hid (fun hs=> by
  rw [hs,if_neg (by decide)] at hm2
  have hv:=(Bool.and_eq_true_iff.1 (Bool.and_eq_true_iff.1 hm2).2).1
  unfold Ykg at hv
  split at hv
  ·rw [Bool.and_eq_true,beq_iff_eq,beq_iff_eq] at hv
   omega
  ·rw [Bool.and_eq_true,beq_iff_eq,beq_iff_eq] at hv
   exact ⟨Yc6.1 hv.1,Yc6.1 hv.2⟩)
 have S5:=Lib.hid (fun i=> (by rw [Ybw,Ybw,Ypx,Ypn,List.append_assoc];rfl:(Ybr (Ybq inter i)++bgS inter)++Ybp inter 5 0=Ybr (Ybq inter (i+1))))
 obtain ⟨R,w1,w2,hR,hw1,hw2,hz1,hz2,hC0,hC1,hbC⟩:=Yrr w (.cells #[.int .i64 x,.int .i64 y] 51 (0,0)) (.cells (Ycs c fun i=> .slice (p i) (n i) (k i)).toArray 56 (0,0))
 have CF:=Lib.hid (fun z (hz:Below (R+2) w2 z)=> Yaz (c:=c) (sl:=fun i=> .slice (p i) (n i) (k i)) (x:=z) (R:=R+1) ((hz.block (R+1) (by omega)).trans hC1))
 have DC:=Lib.hid (fun z (hz:Below (R+2) w2 z) i (hi:i<6)=> Yab (o:=6+i) (x:=.int .i64 (c.dc i)) ((hz.block (R+1) (by omega)).trans hC1) (Ydn c _ i hi))
 have EV:=Lib.hid (fun z (hz:Below (R+2) w2 z) i (hi:i<6)=> Yab (o:=12+i) (x:=.slice (p i) (n i) (k i)) ((hz.block (R+1) (by omega)).trans hC1) (Yd4 c (fun i=> .slice (p i) (n i) (k i)) i hi))
 have PD:=Lib.hid (fun z (hz:Below (R+2) w2 z)=> (⟨Yab (cs:=[.int .i64 x,.int .i64 y]) ((hz.block R (by omega)).trans hC0) rfl,Yab (cs:=[.int .i64 x,.int .i64 y]) ((hz.block R (by omega)).trans hC0) rfl⟩:z.cell? ⟨R,0,none⟩=some (.int .i64 x)∧z.cell? ⟨R,1,none⟩=some (.int .i64 y)))
 rw [hR] at hbl
 have HB:=Lib.hid (fun z (hz:Below (R+2) w2 z)=> (hbC.trans (hz.mono (by omega)):Below R w z))
 have HBL:=Lib.hid hbl
 generalize (Ycs c fun i=> .slice (p i) (n i) (k i)).toArray=A at *
 have HW1:=Lib.hid hw1
 have HW2:=Lib.hid hw2
 have HR:=Lib.hid hR
 have HNS:=Lib.hid hns
 have HZ2:=Lib.hid hz2
 have h00:Below (R+2) w2 w2:=Below.refl _ _
 clear hst hm2 hm0 hw1 hw2 hR hC0 hC1 hbC hbl hc hns hz1 hz2 hbk cl1 cl2 cl3
 generalize Ybx inter x y c=CL at *
 go_enter Tryz.func41,Tryz.ntmps41
 go_upto_if 15 with fail
 rw [HW1.out,HW2.out,HR.out]
 go_cut [7] (fun v wz=> v = .string (bgS inter)∧wz=w2)
 case first=>
  cases inter
  ·go_wp2
   go_meet
   case rel=> exact ⟨rfl,rfl⟩
  ·go_wp2
   go_meet
   case rel=> exact ⟨rfl,rfl⟩
 case rest=>
  obtain ⟨rfl,hwc⟩:=hcut
  rw [hwc]
  clear hwc
  have HC:=Lib.hid (show Ybq inter ns++(Yta inter++(Ybp inter c.kind (Yg0 c:Nat)).data.toList++(Ydg (Yaj c.kind) (Yc7 c 4:Nat)).data.toList++(Yax c.step).data.toList)=Ybq inter ns++(Yta inter++(Ybp inter c.kind (Yg0 c:Nat)).data.toList++(Ydg (Yaj c.kind) (Yc7 c 4:Nat)).data.toList++(Yax c.step).data.toList) from rfl)
  obtain ⟨H1,hH1⟩:∃H1,Ybq inter ns++(Yta inter++(Ybp inter c.kind (Yg0 c:Nat)).data.toList++(Ydg (Yaj c.kind) (Yc7 c 4:Nat)).data.toList++(Yax c.step).data.toList)=H1:=⟨_,rfl⟩
  have EH:Hid ((((Ybr (Ybq inter ns)++bgS inter)++Ybp inter c.kind (Yg0 c:Nat))++Ydg (Yaj c.kind) (Yc7 c 4:Nat))++Yax c.step=Ybr H1):=Lib.hid (by rw [Ybw,Ybw,Ybw,Ybw,Ypx,←hH1];simp only [List.append_assoc])
  have H1L:Hid (H1.length≤660):=Lib.hid (by
   have a1:=STF.out ns
   have a2:(Yta inter).length≤1:=(Ygx inter).2
   have a3:(Ybp inter c.kind (Yg0 c:Nat)).data.toList.length≤9:=hrk
   have a4:(Ydg (Yaj c.kind) (Yc7 c 4:Nat)).data.toList.length≤6:=hpr
   have a5:(Yax c.step).data.toList.length≤2:=hsr
   rw [←hH1]
   simp only [List.length_append]
   omega)
  have CR2:Hid (c.skip=false→CL=H1++(Yxb c.kind x y c.mx c.my++Ydw c 6)):=Lib.hid (fun hs=> by rw [CR.out,hs,←hH1];simp only [Bool.false_eq_true,if_false,List.append_assoc])
  clear hH1 HC
  generalize bgS inter=bg at *
  generalize Ybp inter 5 0=r5 at *
  generalize Ybp inter c.kind (Yg0 c:Nat)=kr at *
  generalize Yax c.step=sr at *
  generalize hpg:Ydg (Yaj c.kind) (Yc7 c 4:Nat)=pr at *
  clear hpg
  go_wp2
  go_loopw [8,9] (fun t v wr=>∃i:Nat,i≤ns∧v = .int .i64 i∧t = .string (Ybr (Ybq inter i))∧Below (R+2) w2 wr) (fun _ v _=> ns-(RowKit.intOf v).toNat)
  case atStart=> exact ⟨0,by omega,rfl,rfl,h00⟩
  case round=>
   obtain ⟨i,hin2,rfl,rfl,hb⟩:=hrel
   obtain ⟨c0,c1,c2,c3,c4,c5⟩:=CF.out _ hb
   rw [HNS.out] at c0
   have hzw:=hb.size
   rw [HZ2.out] at hzw
   by_cases hlt:i<ns
   ·have t0:decide ((i:Int)<(ns:Int))=true:=by simp;omega
    have t1:decide (i<ns)=true:=decide_eq_true hlt
    have hso:(Ybr (Ybq inter i)).size≤640:=by rw [Ya8];have:=STF.out i;omega
    have E5:=Lib.hid (S5.out i)
    generalize Ybr (Ybq inter i)=so at *
    clear c1 c2 c3 c4 c5
    go_wp2_with fail
    refine (hrow5 _).mono ?_
    rintro e wz1 ⟨rfl,hb1⟩
    have hb2:=hb.trans (hb1.mono (by omega))
    go_wp2
    go_roundw
    case rel=> exact ⟨i+1,by omega,by go_num,by rw [←E5.out],hb2⟩
    case measure=> simp [RowKit.intOf];omega
   ·obtain rfl:i=ns:=by omega
    have t0:decide ((i:Int)<(i:Int))=false:=by simp
    have t1:decide (i<i)=false:=by simp
    have hso:(Ybr (Ybq inter i)).size≤640:=by rw [Ya8];have:=STF.out i;omega
    cases hsk:c.skip with
    | true=>
     rw [hsk] at c1
     have EE:Hid (Ybr (Ybq inter i)++⟨#[49]⟩=Ybr CL):=Lib.hid (by rw [Ybw,CR.out,hsk];rfl)
     generalize Ybr (Ybq inter i)=so at *
     clear c2 c3 c4 c5
     go_wp2
     go_ret
     exact ⟨by rw [EE.out];rfl,by rw [HR.out];exact HB.out _ hb⟩
    | false=>
     rw [hsk] at c1
     have hkt:=KT.out hsk
     obtain ⟨hmx,hmy⟩:=MV.out hsk
     have CR3:=Lib.hid (CR2.out hsk)
     generalize Ybr (Ybq inter i)=so at *
     clear c3 c4 c5
     go_wp2
     go_loopw [10,11] (fun t v wr2=>∃j:Nat,j≤4∧v = .int .i64 j∧t = .int .i64 (Yc7 c j:Nat)∧wr2=wr) (fun _ v _=> 4-(RowKit.intOf v).toNat)
     case atStart=> exact ⟨0,by omega,rfl,rfl,rfl⟩
     case round=>
      obtain ⟨j,hj4,rfl,rfl,rfl⟩:=hrel
      have hcl:=Yop c j
      have hcl2:Yc7 c j<16:=Nat.lt_of_lt_of_le hcl (Nat.pow_le_pow_right (by decide) hj4)
      by_cases hlt:j<4
      ·have t3:decide ((j:Int)<4)=true:=by simp;omega
       have e0:=EV.out _ hb j (by omega)
       have w1':IntKind.i64.wrap (2*((Yc7 c j:Nat):Int))=((2*Yc7 c j:Nat):Int):=by rw [Yc8 (by omega)];omega
       have N:=Lib.hid (show Yc7 c (j+1)=2*Yc7 c j+Yfw c j from rfl)
       by_cases hn:0<n j
       ·have t4:decide (0<n j)=true:=decide_eq_true hn
        have t5:decide (0<(n j:Int))=true:=decide_eq_true (by omega)
        have HE:=Lib.hid (show Yfw c j=1 by unfold Yfw;rw [←NL.out j (by omega),t4];rfl)
        generalize Yc7 c j=cj at *
        clear hn hcl
        go_wp2
        go_roundw
        case rel=> exact ⟨j+1,by omega,by go_num,by rw [N.out,HE.out];first | rfl | (congr 1;omega),by trivial⟩
        case measure=> simp [RowKit.intOf];omega
       ·have t4:decide (0<n j)=false:=decide_eq_false hn
        have t5:decide (0<(n j:Int))=false:=decide_eq_false (by omega)
        have HE:=Lib.hid (show Yfw c j=0 by unfold Yfw;rw [←NL.out j (by omega),t4];rfl)
        generalize Yc7 c j=cj at *
        clear hn hcl
        go_wp2
        go_roundw
        case rel=> exact ⟨j+1,by omega,by go_num,by rw [N.out,HE.out];first | rfl | (congr 1;omega),by trivial⟩
        case measure=> simp [RowKit.intOf];omega
      ·obtain rfl:j=4:=by omega
       have e4:=EV.out _ hb 4 (by omega)
       have e5:=EV.out _ hb 5 (by omega)
       have HC4:=Lib.hid (show Yg0 c=2*Yfw c 4+Yfw c 5 from rfl)
       have HE4:=Lib.hid (show Yfw c 4=(decide (0<n 4)).toNat by unfold Yfw;rw [←NL.out 4 (by omega)])
       have HE5:=Lib.hid (show Yfw c 5=(decide (0<n 5)).toNat by unfold Yfw;rw [←NL.out 5 (by omega)])
       generalize Yc7 c 4=lum at *
       go_upto_if 50 with fail
       go_cut [12] (fun v wz=> v = .int .i64 ((2*Yfw c 4:Nat):Int)∧wz=wr)
       case first=>
        by_cases hn:0<n 4
        ·have t4:decide (0<n 4)=true:=decide_eq_true hn
         have t5:decide (0<(n 4:Int))=true:=decide_eq_true (by omega)
         rw [t4] at HE4
         clear hn
         first | rw [t4] | rw [t5] | simp only [t4,t5]
         go_wp2
         go_meet
         case rel=> exact ⟨by rw [HE4.out];rfl,by trivial⟩
        ·have t4:decide (0<n 4)=false:=decide_eq_false hn
         have t5:decide (0<(n 4:Int))=false:=decide_eq_false (by omega)
         rw [t4] at HE4
         clear hn
         first | rw [t4] | rw [t5] | simp only [t4,t5]
         go_wp2
         go_meet
         case rel=> exact ⟨by rw [HE4.out];rfl,by trivial⟩
       case rest=>
        obtain ⟨rfl,hwc⟩:=hcut
        rw [hwc]
        clear hwc
        go_upto_if 55 with fail
        go_cut [12] (fun v wz=> v = .int .i64 ((Yg0 c:Nat):Int)∧wz=wr)
        case first=>
         have hE4:Yfw c 4≤1:=You c 4
         have HCC:=Lib.hid (show Yg0 c=2*Yfw c 4+Yfw c 5 from rfl)
         generalize Yfw c 4=h4 at *
         generalize Yg0 c=ch at *
         by_cases hn:0<n 5
         ·have t4:decide (0<n 5)=true:=decide_eq_true hn
          have t5:decide (0<(n 5:Int))=true:=decide_eq_true (by omega)
          rw [t4] at HE5
          clear hn
          first | rw [t4] | rw [t5] | simp only [t4,t5]
          go_wp2
          go_meet
          case rel=> exact ⟨by rw [HCC.out,HE5.out];first | rfl | (congr 1;simp;try omega),by trivial⟩
         ·have t4:decide (0<n 5)=false:=decide_eq_false hn
          have t5:decide (0<(n 5:Int))=false:=decide_eq_false (by omega)
          rw [t4] at HE5
          clear hn
          first | rw [t4] | rw [t5] | simp only [t4,t5]
          go_wp2
          go_meet
          case rel=> exact ⟨by rw [HCC.out,HE5.out];first | rfl | (congr 1;simp;try omega),by trivial⟩
        case rest=>
         obtain ⟨rfl,hwc⟩:=hcut
         rw [hwc]
         clear hwc
         clear HE4 HE5 HC4 e4 e5 c0 c1 c2
         have KI:=Lib.hid (fun z (hz:Below (R+2) w2 z)=> (CF.out z hz).2.2.1)
         have ST:=Lib.hid (fun z (hz:Below (R+2) w2 z)=> (CF.out z hz).2.2.2.1)
         have K6:=Lib.hid (fun z (hz:Below (R+2) w2 z)=> ((hrowk z).mono fun e y h=> ⟨h.1,hz.trans (h.2.mono (by have:=hz.size;have:=HZ2.out;omega))⟩:Calls Tryz.prog 65 #[.bool inter,.int .i64 c.kind,.int .i64 (Yg0 c:Nat)] z fun e y=> e = .returned (.string kr)∧Below (R+2) w2 y))
         have IN:=Lib.hid (fun z (hz:Below (R+2) w2 z)=> ((hint z).mono fun e y h=> ⟨h.1,h.2▸hz⟩:Calls Tryz.prog 37 #[.int .i64 c.kind] z fun e y=> e = .returned (.bool (Yaj c.kind))∧Below (R+2) w2 y))
         have P7:=Lib.hid (fun z (hz:Below (R+2) w2 z)=> ((hpat z).mono fun e y h=> ⟨h.1,hz.trans (h.2.mono (by have:=hz.size;have:=HZ2.out;omega))⟩:Calls Tryz.prog 66 #[.bool (Yaj c.kind),.int .i64 (lum:Nat)] z fun e y=> e = .returned (.string pr)∧Below (R+2) w2 y))
         have S20:=Lib.hid (fun z (hz:Below (R+2) w2 z)=> ((hstp z).mono fun e y h=> ⟨h.1,hz.trans (h.2.mono (by have:=hz.size;have:=HZ2.out;omega))⟩:Calls Tryz.prog 67 #[.int .i64 c.step] z fun e y=> e = .returned (.string sr)∧Below (R+2) w2 y))
         have hbd:=hb.drew
         go_wp2
         refine Yah (S:=fun x=> Below (R+2) w2 x) 19 (by kernel_rfl) (by kernel_rfl) hbd ?_
         simp only [List.take_succ_cons,List.take_zero,List.drop_succ_cons,List.drop_zero]
         iterate 2 (refine Yaa (by kernel_rfl) (fun x _=> by go_simp;try with_reducible rfl) ?_;simp only [Act.put,List.setIfInBounds_toArray,List.set_cons_zero,List.set_cons_succ])
         refine Yaa (v:=.string (so++bg)) (by kernel_rfl) (fun x _=> by go_simp;first | omega | trivial) ?_;simp only [Act.put,List.setIfInBounds_toArray,List.set_cons_zero,List.set_cons_succ]
         iterate 2 (refine Yaa (by kernel_rfl) (fun x _=> by go_simp;try with_reducible rfl) ?_;simp only [Act.put,List.setIfInBounds_toArray,List.set_cons_zero,List.set_cons_succ])
         refine Yae 3 _ ⟨R+1,2,none⟩ (.int .i64 c.kind) (by kernel_rfl) rfl rfl (fun x hx=> by have c0:=KI.out x hx;go_simp) ?_;simp only [Act.put,List.setIfInBounds_toArray,List.set_cons_zero,List.set_cons_succ]
         refine Yaa (by kernel_rfl) (fun x _=> by go_simp;try with_reducible rfl) ?_;simp only [Act.put,List.setIfInBounds_toArray,List.set_cons_zero,List.set_cons_succ]
         refine Yaf (by kernel_rfl) K6.out (fun _=> by kernel_rfl) ?_;simp only [Act.put,List.setIfInBounds_toArray,List.set_cons_zero,List.set_cons_succ]
         refine Yaa (v:=.string ((so++bg)++kr)) (by kernel_rfl) (fun x _=> by go_simp;first | omega | trivial) ?_;simp only [Act.put,List.setIfInBounds_toArray,List.set_cons_zero,List.set_cons_succ]
         refine Yaa (by kernel_rfl) (fun x _=> by go_simp;try with_reducible rfl) ?_;simp only [Act.put,List.setIfInBounds_toArray,List.set_cons_zero,List.set_cons_succ]
         refine Yae 3 _ ⟨R+1,2,none⟩ (.int .i64 c.kind) (by kernel_rfl) rfl rfl (fun x hx=> by have c0:=KI.out x hx;go_simp) ?_;simp only [Act.put,List.setIfInBounds_toArray,List.set_cons_zero,List.set_cons_succ]
         refine Yaf (by kernel_rfl) IN.out (fun _=> by kernel_rfl) ?_;simp only [Act.put,List.setIfInBounds_toArray,List.set_cons_zero,List.set_cons_succ]
         refine Yaa (by kernel_rfl) (fun x _=> by go_simp;try with_reducible rfl) ?_;simp only [Act.put,List.setIfInBounds_toArray,List.set_cons_zero,List.set_cons_succ]
         refine Yaf (by kernel_rfl) P7.out (fun _=> by kernel_rfl) ?_;simp only [Act.put,List.setIfInBounds_toArray,List.set_cons_zero,List.set_cons_succ]
         refine Yaa (v:=.string (((so++bg)++kr)++pr)) (by kernel_rfl) (fun x _=> by go_simp;first | omega | trivial) ?_;simp only [Act.put,List.setIfInBounds_toArray,List.set_cons_zero,List.set_cons_succ]
         refine Yaa (by kernel_rfl) (fun x _=> by go_simp;try with_reducible rfl) ?_;simp only [Act.put,List.setIfInBounds_toArray,List.set_cons_zero,List.set_cons_succ]
         refine Yae 3 _ ⟨R+1,3,none⟩ (.int .i64 c.step) (by kernel_rfl) rfl rfl (fun x hx=> by have c0:=ST.out x hx;go_simp) ?_;simp only [Act.put,List.setIfInBounds_toArray,List.set_cons_zero,List.set_cons_succ]
         refine Yaf (by kernel_rfl) S20.out (fun _=> by kernel_rfl) ?_;simp only [Act.put,List.setIfInBounds_toArray,List.set_cons_zero,List.set_cons_succ]
         refine Yaa (v:=.string ((((so++bg)++kr)++pr)++sr)) (by kernel_rfl) (fun x _=> by go_simp;first | omega | trivial) ?_;simp only [Act.put,List.setIfInBounds_toArray,List.set_cons_zero,List.set_cons_succ]
         refine Yas fun x1 hx1=> ?_
         have HH1:(Ybr H1).size≤660:=by rw [Ya8];exact H1L.out
         have ESO:=EH.out
         rw [ESO]
         clear ESO
         cases hik:Yaj c.kind with
         | true=>
          have hk2:decide (c.kind<2)=false:=by rw [hkt,hik];rfl
          have CR4:Hid (CL=H1++Ydw c 6):=Lib.hid (by rw [CR3.out];unfold Yxb;rw [hik];rfl)
          go_wp2
          go_loopw [8,13] (fun t v wr3=> v = .int .i64 0∧t = .string (Ybr H1)∧Below (R+2) w2 wr3) (fun _ v _=> 2-(RowKit.intOf v).toNat)
          case atStart=> exact ⟨rfl,rfl,hx1⟩
          case round=>
           clear hx1 hb hbd
           obtain ⟨rfl,rfl,hb⟩:=hrel
           have c2:=KI.out _ hb
           go_wp2
           go_loopw [8,14] (fun t v wr4=>∃m:Nat,m≤6∧v = .int .i64 m∧t = .string (Ybr (H1++Ydw c m))∧Below (R+2) w2 wr4) (fun _ v _=> 6-(RowKit.intOf v).toNat)
           case atStart=> exact ⟨0,by omega,rfl,by rw [show Ydw c 0 = [] from rfl,List.append_nil],hb⟩
           case round=>
            clear hb c2
            obtain ⟨m,hm6,rfl,rfl,hb⟩:=hrel
            by_cases hlt:m<6
            ·have t6:decide ((m:Int)<6)=true:=by simp;omega
             have D0:=Lib.hid (fun z (hz:Below (R+2) w2 z)=> DC.out z hz m hlt)
             have E0:=Lib.hid (fun z (hz:Below (R+2) w2 z)=> (by have h:=EV.out z hz m hlt;rw [NL.out m hlt] at h;exact h:z.cell? ⟨R+1,12+m,none⟩=some (.slice (p m) (c.ev m).length (k m))))
             have BR:=Lib.hid (fun z (hz:Below (R+2) w2 z)=> ((HBL.out m hlt z (HB.out z hz)).mono fun e y' h=> ⟨h.1,hz.trans (h.2.mono (by have:=hz.size;have:=HZ2.out;omega))⟩:Calls Tryz.prog 70 #[.bool (Yaj c.kind),.int .i64 (c.dc m),.slice (p m) (c.ev m).length (k m)] z fun e y'=> e = .returned (.string ⟨(Yez (Yaj c.kind) (c.dc m) (c.ev m)).toArray⟩)∧Below (R+2) w2 y'))
             have hrs:(⟨(Yez (Yaj c.kind) (c.dc m) (c.ev m)).toArray⟩:ByteArray).size≤8496:=by
              have a1:=BLN.out (m+1) (by omega)
              have a2:Ydw c (m+1)=Ydw c m++Yez (Yaj c.kind) (c.dc m) (c.ev m):=rfl
              rw [a2,List.length_append] at a1
              rw [Yds]
              omega
             have EQ:=Lib.hid (by rw [Ybw,show Ydw c (m+1)=Ydw c m++Yez (Yaj c.kind) (c.dc m) (c.ev m) from rfl,←List.append_assoc]:Ybr (H1++Ydw c m)++(⟨(Yez (Yaj c.kind) (c.dc m) (c.ev m)).toArray⟩:ByteArray)=Ybr (H1++Ydw c (m+1)))
             have hss:(Ybr (H1++Ydw c m)).size≤9990:=by
              have a1:=BLN.out m (by omega)
              rw [Ya8,List.length_append]
              have a2:=H1L.out
              omega
             rw [hik] at BR EQ hrs IN
             generalize Ybr (H1++Ydw c m)=sm at *
             obtain ⟨rb,hrb⟩:∃rb:ByteArray,⟨(Yez true (c.dc m) (c.ev m)).toArray⟩=rb:=⟨_,rfl⟩
             rw [hrb] at BR EQ hrs
             clear hrb
             have hbd:=hb.drew
             go_wp2
             refine Yah (S:=fun x=> Below (R+2) w2 x) 14 (by kernel_rfl) (by kernel_rfl) hbd ?_
             simp only [List.take_succ_cons,List.take_zero,List.drop_succ_cons,List.drop_zero]
             iterate 2 (refine Yaa (by kernel_rfl) (fun x _=> by go_simp;try with_reducible rfl) ?_;simp only [Act.put,List.setIfInBounds_toArray,List.set_cons_zero,List.set_cons_succ])
             refine Yae 3 _ ⟨R+1,2,none⟩ (.int .i64 c.kind) (by kernel_rfl) rfl rfl (fun x hx=> by have c0:=KI.out x hx;go_simp) ?_;simp only [Act.put,List.setIfInBounds_toArray,List.set_cons_zero,List.set_cons_succ]
             refine Yaf (by kernel_rfl) IN.out (fun _=> by kernel_rfl) ?_;simp only [Act.put,List.setIfInBounds_toArray,List.set_cons_zero,List.set_cons_succ]
             iterate 2 (refine Yaa (by kernel_rfl) (fun x _=> by go_simp;try with_reducible rfl) ?_;simp only [Act.put,List.setIfInBounds_toArray,List.set_cons_zero,List.set_cons_succ])
             refine Yaa (by kernel_rfl) (fun x _=> by go_simp;rw [if_pos (by omega)]) ?_;simp only [Act.put,List.setIfInBounds_toArray,List.set_cons_zero,List.set_cons_succ]
             refine Yae 3 _ ⟨R+1,6+m,none⟩ (.int .i64 (c.dc m)) (by kernel_rfl) rfl rfl (fun x hx=> by have c0:=D0.out x hx;go_simp) ?_;simp only [Act.put,List.setIfInBounds_toArray,List.set_cons_zero,List.set_cons_succ]
             iterate 2 (refine Yaa (by kernel_rfl) (fun x _=> by go_simp;try with_reducible rfl) ?_;simp only [Act.put,List.setIfInBounds_toArray,List.set_cons_zero,List.set_cons_succ])
             refine Yaa (by kernel_rfl) (fun x _=> by go_simp;rw [if_pos (by omega)]) ?_;simp only [Act.put,List.setIfInBounds_toArray,List.set_cons_zero,List.set_cons_succ]
             refine Yae 53 _ ⟨R+1,12+m,none⟩ (.slice (p m) (c.ev m).length (k m)) (by kernel_rfl) rfl rfl (fun x hx=> by have c0:=E0.out x hx;go_simp) ?_;simp only [Act.put,List.setIfInBounds_toArray,List.set_cons_zero,List.set_cons_succ]
             refine Yaf (by kernel_rfl) BR.out (fun _=> by kernel_rfl) ?_;simp only [Act.put,List.setIfInBounds_toArray,List.set_cons_zero,List.set_cons_succ]
             refine Yaa (v:=.string (sm++rb)) (by kernel_rfl) (fun x _=> by go_simp;first | omega | trivial) ?_;simp only [Act.put,List.setIfInBounds_toArray,List.set_cons_zero,List.set_cons_succ]
             refine Yas fun x4 hx4=> ?_
             go_wp2
             go_roundw
             case rel=> exact ⟨m+1,by omega,by go_num,by rw [EQ.out],hx4⟩
             case measure=> simp [RowKit.intOf];omega
            ·obtain rfl:m=6:=by omega
             have EF:Hid (Ybr (H1++Ydw c 6)=Ybr CL):=Lib.hid (by rw [CR4.out])
             go_wp2
             go_ret
             exact ⟨by rw [←EF.out];rfl,by rw [HR.out];exact HB.out _ hb⟩
         | false=>
          have hk2:decide (c.kind<2)=true:=by rw [hkt,hik];rfl
          have CR4:Hid (CL=(H1++Ydu x y c 2)++Ydw c 6):=Lib.hid (by rw [CR3.out];unfold Yxb;rw [hik,List.append_assoc];rfl)
          go_wp2
          go_loopw [8,13] (fun t v wr3=>∃j:Nat,j≤2∧v = .int .i64 j∧t = .string (Ybr (H1++Ydu x y c j))∧Below (R+2) w2 wr3) (fun _ v _=> 2-(RowKit.intOf v).toNat)
          case atStart=> exact ⟨0,by omega,rfl,by rw [show Ydu x y c 0 = [] from rfl,List.append_nil],hx1⟩
          case round=>
           clear hx1 hb hbd
           obtain ⟨j,hj2,rfl,rfl,hb⟩:=hrel
           have c2:=KI.out _ hb
           rcases (by omega:j=0∨j=1∨j=2) with rfl | rfl | rfl
           ·have PX:=Lib.hid (fun z (hz:Below (R+2) w2 z)=> (PD.out z hz).1)
            have MX:=Lib.hid (fun z (hz:Below (R+2) w2 z)=> (CF.out z hz).2.2.2.2.1)
            have WP:=Lib.hid (fun z (hz:Below (R+2) w2 z)=> ((hwr x z).mono fun e y' h=> ⟨h.1,h.2▸hz⟩:Calls Tryz.prog 69 #[.int .i64 x] z fun e y'=> e = .returned (.int .i64 (Ya5 x))∧Below (R+2) w2 y'))
            have WD:=Lib.hid (fun z (hz:Below (R+2) w2 z)=> ((hwr (c.mx-Ya5 x) z).mono fun e y' h=> ⟨h.1,h.2▸hz⟩:Calls Tryz.prog 69 #[.int .i64 (c.mx-Ya5 x)] z fun e y'=> e = .returned (.int .i64 (Ya5 (c.mx-Ya5 x)))∧Below (R+2) w2 y'))
            have DR:=Lib.hid (fun z (hz:Below (R+2) w2 z)=> ((hdr (Ya5 (c.mx-Ya5 x)) z).mono fun e y' h=> ⟨h.1,hz.trans (h.2.mono (by have:=hz.size;have:=HZ2.out;omega))⟩:Calls Tryz.prog 68 #[.int .i64 (Ya5 (c.mx-Ya5 x))] z fun e y'=> e = .returned (.string (Yau (Ya5 (c.mx-Ya5 x))))∧Below (R+2) w2 y'))
            have WS:=Lib.hid (Yc8 (by have:=Yc9 x;omega):IntKind.i64.wrap (c.mx-Ya5 x)=c.mx-Ya5 x)
            have EQ:=Lib.hid (by rw [Ybw];simp [Ydu]:Ybr (H1++Ydu x y c 0)++Yau (Ya5 (c.mx-Ya5 x))=Ybr (H1++Ydu x y c 1))
            have hvs:(Ybr (H1++Ydu x y c 0)).size≤690:=by
             rw [Ya8,List.length_append]
             have a1:=H1L.out
             have a2:(Ydu x y c 0).length≤13:=Nat.zero_le _
             omega
            have hds:(Yau (Ya5 (c.mx-Ya5 x))).size≤13:=hd0
            generalize Ybr (H1++Ydu x y c 0)=sv at *
            generalize Yau (Ya5 (c.mx-Ya5 x))=dv at *
            have hbd:=hb.drew
            clear hd0 hd1
            go_wp2
            refine Yah (S:=fun x=> Below (R+2) w2 x) 13 (by kernel_rfl) (by kernel_rfl) hbd ?_
            simp only [List.take_succ_cons,List.take_zero,List.drop_succ_cons,List.drop_zero]
            iterate 4 (refine Yaa (by kernel_rfl) (fun x _=> by go_simp;try with_reducible rfl) ?_;simp only [Act.put,List.setIfInBounds_toArray,List.set_cons_zero,List.set_cons_succ])
            refine Yae 3 _ ⟨R+1,4,none⟩ (.int .i64 c.mx) (by kernel_rfl) rfl rfl (fun x hx=> by have c0:=MX.out x hx;go_simp) ?_;simp only [Act.put,List.setIfInBounds_toArray,List.set_cons_zero,List.set_cons_succ]
            iterate 2 (refine Yaa (by kernel_rfl) (fun x _=> by go_simp;try with_reducible rfl) ?_;simp only [Act.put,List.setIfInBounds_toArray,List.set_cons_zero,List.set_cons_succ])
            refine Yae 3 _ ⟨R,0,none⟩ (.int .i64 x) (by kernel_rfl) rfl rfl (fun x hx=> by have c0:=PX.out x hx;go_simp) ?_;simp only [Act.put,List.setIfInBounds_toArray,List.set_cons_zero,List.set_cons_succ]
            refine Yaf (by kernel_rfl) WP.out (fun _=> by kernel_rfl) ?_;simp only [Act.put,List.setIfInBounds_toArray,List.set_cons_zero,List.set_cons_succ]
            refine Yaa (v:=.int .i64 (c.mx-Ya5 x)) (by kernel_rfl) (fun x _=> by have ws:=WS.out;go_simp) ?_;simp only [Act.put,List.setIfInBounds_toArray,List.set_cons_zero,List.set_cons_succ]
            refine Yaf (by kernel_rfl) WD.out (fun _=> by kernel_rfl) ?_;simp only [Act.put,List.setIfInBounds_toArray,List.set_cons_zero,List.set_cons_succ]
            refine Yaf (by kernel_rfl) DR.out (fun _=> by kernel_rfl) ?_;simp only [Act.put,List.setIfInBounds_toArray,List.set_cons_zero,List.set_cons_succ]
            refine Yaa (v:=.string (sv++dv)) (by kernel_rfl) (fun x _=> by go_simp;first | omega | trivial) ?_;simp only [Act.put,List.setIfInBounds_toArray,List.set_cons_zero,List.set_cons_succ]
            refine Yas fun x3 hx3=> ?_
            go_wp2
            go_roundw
            case rel=> exact ⟨0+1,by omega,by first | rfl | trivial,by rw [EQ.out],hx3⟩
            case measure=> simp [RowKit.intOf]
           ·have PX:=Lib.hid (fun z (hz:Below (R+2) w2 z)=> (PD.out z hz).2)
            have MX:=Lib.hid (fun z (hz:Below (R+2) w2 z)=> (CF.out z hz).2.2.2.2.2)
            have WP:=Lib.hid (fun z (hz:Below (R+2) w2 z)=> ((hwr y z).mono fun e y' h=> ⟨h.1,h.2▸hz⟩:Calls Tryz.prog 69 #[.int .i64 y] z fun e y'=> e = .returned (.int .i64 (Ya5 y))∧Below (R+2) w2 y'))
            have WD:=Lib.hid (fun z (hz:Below (R+2) w2 z)=> ((hwr (c.my-Ya5 y) z).mono fun e y' h=> ⟨h.1,h.2▸hz⟩:Calls Tryz.prog 69 #[.int .i64 (c.my-Ya5 y)] z fun e y'=> e = .returned (.int .i64 (Ya5 (c.my-Ya5 y)))∧Below (R+2) w2 y'))
            have DR:=Lib.hid (fun z (hz:Below (R+2) w2 z)=> ((hdr (Ya5 (c.my-Ya5 y)) z).mono fun e y' h=> ⟨h.1,hz.trans (h.2.mono (by have:=hz.size;have:=HZ2.out;omega))⟩:Calls Tryz.prog 68 #[.int .i64 (Ya5 (c.my-Ya5 y))] z fun e y'=> e = .returned (.string (Yau (Ya5 (c.my-Ya5 y))))∧Below (R+2) w2 y'))
            have WS:=Lib.hid (Yc8 (by have:=Yc9 y;omega):IntKind.i64.wrap (c.my-Ya5 y)=c.my-Ya5 y)
            have EQ:=Lib.hid (by rw [Ybw];simp [Ydu]:Ybr (H1++Ydu x y c 1)++Yau (Ya5 (c.my-Ya5 y))=Ybr (H1++Ydu x y c 2))
            have hvs:(Ybr (H1++Ydu x y c 1)).size≤690:=by
             rw [Ya8,List.length_append]
             have a1:=H1L.out
             have a2:(Ydu x y c 1).length≤13:=hd0
             omega
            have hds:(Yau (Ya5 (c.my-Ya5 y))).size≤13:=hd1
            generalize Ybr (H1++Ydu x y c 1)=sv at *
            generalize Yau (Ya5 (c.my-Ya5 y))=dv at *
            have hbd:=hb.drew
            clear hd0 hd1
            go_wp2
            refine Yah (S:=fun x=> Below (R+2) w2 x) 13 (by kernel_rfl) (by kernel_rfl) hbd ?_
            simp only [List.take_succ_cons,List.take_zero,List.drop_succ_cons,List.drop_zero]
            iterate 4 (refine Yaa (by kernel_rfl) (fun x _=> by go_simp;try with_reducible rfl) ?_;simp only [Act.put,List.setIfInBounds_toArray,List.set_cons_zero,List.set_cons_succ])
            refine Yae 3 _ ⟨R+1,5,none⟩ (.int .i64 c.my) (by kernel_rfl) rfl rfl (fun x hx=> by have c0:=MX.out x hx;go_simp) ?_;simp only [Act.put,List.setIfInBounds_toArray,List.set_cons_zero,List.set_cons_succ]
            iterate 2 (refine Yaa (by kernel_rfl) (fun x _=> by go_simp;try with_reducible rfl) ?_;simp only [Act.put,List.setIfInBounds_toArray,List.set_cons_zero,List.set_cons_succ])
            refine Yae 3 _ ⟨R,1,none⟩ (.int .i64 y) (by kernel_rfl) rfl rfl (fun x hx=> by have c0:=PX.out x hx;go_simp) ?_;simp only [Act.put,List.setIfInBounds_toArray,List.set_cons_zero,List.set_cons_succ]
            refine Yaf (by kernel_rfl) WP.out (fun _=> by kernel_rfl) ?_;simp only [Act.put,List.setIfInBounds_toArray,List.set_cons_zero,List.set_cons_succ]
            refine Yaa (v:=.int .i64 (c.my-Ya5 y)) (by kernel_rfl) (fun x _=> by have ws:=WS.out;go_simp) ?_;simp only [Act.put,List.setIfInBounds_toArray,List.set_cons_zero,List.set_cons_succ]
            refine Yaf (by kernel_rfl) WD.out (fun _=> by kernel_rfl) ?_;simp only [Act.put,List.setIfInBounds_toArray,List.set_cons_zero,List.set_cons_succ]
            refine Yaf (by kernel_rfl) DR.out (fun _=> by kernel_rfl) ?_;simp only [Act.put,List.setIfInBounds_toArray,List.set_cons_zero,List.set_cons_succ]
            refine Yaa (v:=.string (sv++dv)) (by kernel_rfl) (fun x _=> by go_simp;first | omega | trivial) ?_;simp only [Act.put,List.setIfInBounds_toArray,List.set_cons_zero,List.set_cons_succ]
            refine Yas fun x3 hx3=> ?_
            go_wp2
            go_roundw
            case rel=> exact ⟨1+1,by omega,by first | rfl | trivial,by rw [EQ.out],hx3⟩
            case measure=> simp [RowKit.intOf]
           ·have hvs:(Ybr (H1++Ydu x y c 2)).size≤690:=by
             rw [Ya8,List.length_append]
             have a1:=H1L.out
             have a2:(Ydu x y c 2).length≤26:=by
              show ((Yau _).data.toList++(Yau _).data.toList).length≤26
              rw [List.length_append]
              have b1:(Yau (Ya5 (c.mx-Ya5 x))).data.toList.length≤13:=hd0
              have b2:(Yau (Ya5 (c.my-Ya5 y))).data.toList.length≤13:=hd1
              omega
             omega
            go_wp2
            go_loopw [8,14] (fun t v wr4=>∃m:Nat,m≤6∧v = .int .i64 m∧t = .string (Ybr ((H1++Ydu x y c 2)++Ydw c m))∧Below (R+2) w2 wr4) (fun _ v _=> 6-(RowKit.intOf v).toNat)
            case atStart=> exact ⟨0,by omega,rfl,by rw [show Ydw c 0 = [] from rfl,List.append_nil],hb⟩
            case round=>
             clear hb c2
             obtain ⟨m,hm6,rfl,rfl,hb⟩:=hrel
             by_cases hlt:m<6
             ·have t6:decide ((m:Int)<6)=true:=by simp;omega
              have D0:=Lib.hid (fun z (hz:Below (R+2) w2 z)=> DC.out z hz m hlt)
              have E0:=Lib.hid (fun z (hz:Below (R+2) w2 z)=> (by have h:=EV.out z hz m hlt;rw [NL.out m hlt] at h;exact h:z.cell? ⟨R+1,12+m,none⟩=some (.slice (p m) (c.ev m).length (k m))))
              have BR:=Lib.hid (fun z (hz:Below (R+2) w2 z)=> ((HBL.out m hlt z (HB.out z hz)).mono fun e y' h=> ⟨h.1,hz.trans (h.2.mono (by have:=hz.size;have:=HZ2.out;omega))⟩:Calls Tryz.prog 70 #[.bool (Yaj c.kind),.int .i64 (c.dc m),.slice (p m) (c.ev m).length (k m)] z fun e y'=> e = .returned (.string ⟨(Yez (Yaj c.kind) (c.dc m) (c.ev m)).toArray⟩)∧Below (R+2) w2 y'))
              have hrs:(⟨(Yez (Yaj c.kind) (c.dc m) (c.ev m)).toArray⟩:ByteArray).size≤8496:=by
               have a1:=BLN.out (m+1) (by omega)
               have a2:Ydw c (m+1)=Ydw c m++Yez (Yaj c.kind) (c.dc m) (c.ev m):=rfl
               rw [a2,List.length_append] at a1
               rw [Yds]
               omega
              have EQ:=Lib.hid (by rw [Ybw,show Ydw c (m+1)=Ydw c m++Yez (Yaj c.kind) (c.dc m) (c.ev m) from rfl,←List.append_assoc]:Ybr ((H1++Ydu x y c 2)++Ydw c m)++(⟨(Yez (Yaj c.kind) (c.dc m) (c.ev m)).toArray⟩:ByteArray)=Ybr ((H1++Ydu x y c 2)++Ydw c (m+1)))
              have hss:(Ybr ((H1++Ydu x y c 2)++Ydw c m)).size≤9990:=by
               have a1:=BLN.out m (by omega)
               rw [Ya8,List.length_append]
               have a2:=hvs
               rw [Ya8] at a2
               omega
              rw [hik] at BR EQ hrs IN
              generalize Ybr ((H1++Ydu x y c 2)++Ydw c m)=sm at *
              obtain ⟨rb,hrb⟩:∃rb:ByteArray,⟨(Yez false (c.dc m) (c.ev m)).toArray⟩=rb:=⟨_,rfl⟩
              rw [hrb] at BR EQ hrs
              clear hrb
              have hbd:=hb.drew
              go_wp2
              refine Yah (S:=fun x=> Below (R+2) w2 x) 14 (by kernel_rfl) (by kernel_rfl) hbd ?_
              simp only [List.take_succ_cons,List.take_zero,List.drop_succ_cons,List.drop_zero]
              iterate 2 (refine Yaa (by kernel_rfl) (fun x _=> by go_simp;try with_reducible rfl) ?_;simp only [Act.put,List.setIfInBounds_toArray,List.set_cons_zero,List.set_cons_succ])
              refine Yae 3 _ ⟨R+1,2,none⟩ (.int .i64 c.kind) (by kernel_rfl) rfl rfl (fun x hx=> by have c0:=KI.out x hx;go_simp) ?_;simp only [Act.put,List.setIfInBounds_toArray,List.set_cons_zero,List.set_cons_succ]
              refine Yaf (by kernel_rfl) IN.out (fun _=> by kernel_rfl) ?_;simp only [Act.put,List.setIfInBounds_toArray,List.set_cons_zero,List.set_cons_succ]
              iterate 2 (refine Yaa (by kernel_rfl) (fun x _=> by go_simp;try with_reducible rfl) ?_;simp only [Act.put,List.setIfInBounds_toArray,List.set_cons_zero,List.set_cons_succ])
              refine Yaa (by kernel_rfl) (fun x _=> by go_simp;rw [if_pos (by omega)]) ?_;simp only [Act.put,List.setIfInBounds_toArray,List.set_cons_zero,List.set_cons_succ]
              refine Yae 3 _ ⟨R+1,6+m,none⟩ (.int .i64 (c.dc m)) (by kernel_rfl) rfl rfl (fun x hx=> by have c0:=D0.out x hx;go_simp) ?_;simp only [Act.put,List.setIfInBounds_toArray,List.set_cons_zero,List.set_cons_succ]
              iterate 2 (refine Yaa (by kernel_rfl) (fun x _=> by go_simp;try with_reducible rfl) ?_;simp only [Act.put,List.setIfInBounds_toArray,List.set_cons_zero,List.set_cons_succ])
              refine Yaa (by kernel_rfl) (fun x _=> by go_simp;rw [if_pos (by omega)]) ?_;simp only [Act.put,List.setIfInBounds_toArray,List.set_cons_zero,List.set_cons_succ]
              refine Yae 53 _ ⟨R+1,12+m,none⟩ (.slice (p m) (c.ev m).length (k m)) (by kernel_rfl) rfl rfl (fun x hx=> by have c0:=E0.out x hx;go_simp) ?_;simp only [Act.put,List.setIfInBounds_toArray,List.set_cons_zero,List.set_cons_succ]
              refine Yaf (by kernel_rfl) BR.out (fun _=> by kernel_rfl) ?_;simp only [Act.put,List.setIfInBounds_toArray,List.set_cons_zero,List.set_cons_succ]
              refine Yaa (v:=.string (sm++rb)) (by kernel_rfl) (fun x _=> by go_simp;first | omega | trivial) ?_;simp only [Act.put,List.setIfInBounds_toArray,List.set_cons_zero,List.set_cons_succ]
              refine Yas fun x4 hx4=> ?_
              go_wp2
              go_roundw
              case rel=> exact ⟨m+1,by omega,by go_num,by rw [EQ.out],hx4⟩
              case measure=> simp [RowKit.intOf];omega
             ·obtain rfl:m=6:=by omega
              have EF:Hid (Ybr ((H1++Ydu x y c 2)++Ydw c 6)=Ybr CL):=Lib.hid (by rw [CR4.out])
              go_wp2
              go_ret
              exact ⟨by rw [←EF.out];rfl,by rw [HR.out];exact HB.out _ hb⟩
end Go.Proofs.YtgikochfffdpfaaGreatDoor