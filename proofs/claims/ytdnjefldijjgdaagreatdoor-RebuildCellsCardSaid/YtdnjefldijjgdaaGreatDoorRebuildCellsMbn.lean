/- No condition. -/
import Derived.Test.YtdnjefldijjgdaaGreatDoorRebuildCellsMa
import Derived.Test.YtdnjefldijjgdaaGreatDoorRebuildCellsMb
import Derived.Test.YtdnjefldijjgdaaGreatDoorRebuildCellsMh
import Derived.Test.YtdnjefldijjgdaaGreatDoorRebuildCellsMi
import Derived.Test.YtdnjefldijjgdaaGreatDoorRebuildCellsMn
import Derived.WalkMore
import Derived.IntWalk
import Derived.Great.BuildSlice
import Derived.BigQuiet
import Derived.Deep.QuietTactic
namespace Go.Proofs.YtdnjefldijjgdaaGreatDoor
open Go.RowKit Go.Lib
def Yg1:List Int:=[64,64,64,64,89,75,50,18,83,36,-36,-83,75,-18,-89,-50,64,-64,-64,64,50,-89,18,75,36,-83,83,-36,18,-50,75,-89]
theorem Yow:∀u,u<8→∀x,x<4→Yg1[u*4+x]?.getD 0=wt (8*u+x):=by decide +kernel
theorem Yrb:∀u,u<8→∀x,x<4→u%2=1→-(Yg1[u*4+x]?.getD 0)=wt (8*u+(7-x)):=by decide +kernel
theorem Yov:∀u,u<8→∀x,x<4→u%2=0→Yg1[u*4+x]?.getD 0=wt (8*u+(7-x)):=by decide +kernel
theorem Yra:∀i,i<32→-89≤Yg1[i]?.getD 0∧Yg1[i]?.getD 0≤89:=by decide +kernel
def hrow (k:Nat):Array Value:=arn 4 fun i=>Yg1[4*k+i]?.getD 0
def Yhf:Array Value:=arn 32 fun i=>Yg1[i]?.getD 0
set_option maxRecDepth 100000 in
set_option maxHeartbeats 2000000 in
theorem Ynw (u x:Nat)(hu:u<8)(hx:x<4)(w:World):Calls Tryz.prog 78 #[.int .i64 u,.int .i64 x] w fun e w'=>e=.returned (.int .i64 (wt (8*u+x)))∧Below w.heap.size w w':=by
 obtain⟨Y,hY⟩:∃Y,arn 32 (fun _=>0)=Y:=⟨_,rfl⟩;have hz0:∀w,(zeroValue 109).run Tryz.prog w=.ok (.agg Y) w:=by rw[←hY];exact Yeb (by kernel_rfl)
 have HSV:(Tryz.prog.info? 109).map (·.size)=some Yhf.size:=Ydn (by kernel_rfl) _;have HOV:Yhf.all (·.oneCell')=true:=Yau 32 _;have HYV:Y.size=Yhf.size:=by rw[←hY];unfold Yhf;rw[Yaj,Yaj]
 obtain⟨B,hB⟩:∃B,w.heap.size=B:=⟨_,rfl⟩;obtain⟨wA,hwA⟩:∃wA,w.alloc (.cells Yhf 109 (0,0))=wA:=⟨_,rfl⟩;have hA:wA.heap[B]? =some (Yca 109 32 fun i=>Yg1[i]?.getD 0):=by rw[←hwA,←hB];exact heap_alloc_new w _
 have hbA:Below B w wA:=by rw[←hwA,←hB];exact(Below.refl _ _).alloc (Nat.le_refl _) _
 have h:=Ya7 hA (show u*4+x<32 by omega);have HB:=Lib.hid hB;have HWA:=Lib.hid hwA;have HBA:=Lib.hid hbA;clear hY hwA hB hA hbA;have t0:decide ((x:Int)<4)=true:=by simp;omega
 rw[Yow u hu x hx] at h;generalize wt (8*u+x)=y at h ⊢
 go_enter Tryz.func78,Tryz.ntmps78
 go_wp2_with (first|(with_reducible refine wpList_buildTo rfl 54 _ rfl (some 6) rfl (hrow 0) (by kernel_rfl) ?_)|(with_reducible refine wpList_buildTo rfl 54 _ rfl (some 7) rfl (hrow 1) (by kernel_rfl) ?_)|(with_reducible refine wpList_buildTo rfl 54 _ rfl (some 8) rfl (hrow 2) (by kernel_rfl) ?_)|(with_reducible refine wpList_buildTo rfl 54 _ rfl (some 9) rfl (hrow 3) (by kernel_rfl) ?_)|(with_reducible refine wpList_buildTo rfl 54 _ rfl (some 10) rfl (hrow 4) (by kernel_rfl) ?_)|(with_reducible refine wpList_buildTo rfl 54 _ rfl (some 11) rfl (hrow 5) (by kernel_rfl) ?_)|(with_reducible refine wpList_buildTo rfl 54 _ rfl (some 12) rfl (hrow 6) (by kernel_rfl) ?_)|(with_reducible refine wpList_buildTo rfl 54 _ rfl (some 13) rfl (hrow 7) (by kernel_rfl) ?_)|(with_reducible refine wpList_buildTo rfl 109 _ rfl (some 14) rfl Yhf (by kernel_rfl) ?_)|(with_reducible refine Yap rfl 109 _ _ rfl Yhf Y 109 rfl rfl HSV HYV HOV ?_;rw[HWA.out,HB.out]))
 go_ret
 exact⟨rfl,by rw[HB.out];exact HBA.out⟩
set_option maxRecDepth 100000 in
set_option maxHeartbeats 2000000 in
theorem Ylf (u x:Nat)(hu:u<8)(hx:x<4)(w:World):Calls Tryz.prog 78 #[.int .i64 u,.int .i64 ((7-x:Nat):Int)] w fun e w'=>e=.returned (.int .i64 (wt (8*u+(7-x))))∧Below w.heap.size w w':=by
 obtain⟨Y,hY⟩:∃Y,arn 32 (fun _=>0)=Y:=⟨_,rfl⟩;have hz0:∀w,(zeroValue 109).run Tryz.prog w=.ok (.agg Y) w:=by rw[←hY];exact Yeb (by kernel_rfl)
 have HSV:(Tryz.prog.info? 109).map (·.size)=some Yhf.size:=Ydn (by kernel_rfl) _;have HOV:Yhf.all (·.oneCell')=true:=Yau 32 _;have HYV:Y.size=Yhf.size:=by rw[←hY];unfold Yhf;rw[Yaj,Yaj]
 obtain⟨B,hB⟩:∃B,w.heap.size=B:=⟨_,rfl⟩;obtain⟨wA,hwA⟩:∃wA,w.alloc (.cells Yhf 109 (0,0))=wA:=⟨_,rfl⟩;have hA:wA.heap[B]? =some (Yca 109 32 fun i=>Yg1[i]?.getD 0):=by rw[←hwA,←hB];exact heap_alloc_new w _
 have hbA:Below B w wA:=by rw[←hwA,←hB];exact(Below.refl _ _).alloc (Nat.le_refl _) _
 have h:=Ya7 hA (show u*4+x<32 by omega);have HB:=Lib.hid hB;have HWA:=Lib.hid hwA;have HBA:=Lib.hid hbA;clear hY hwA hB hA hbA;have hin:=Yra (u*4+x) (by omega);have ho:=Yrb u hu x hx;have he:=Yov u hu x hx;obtain⟨x2,hx2⟩:∃x2,7-x=x2:=⟨_,rfl⟩;obtain rfl:x=7-x2:=by omega
 have t0:decide ((x2:Int)<4)=false:=by simp;omega
 have b2:x2≤7:=by omega
 rw[hx2] at ho he ⊢;generalize Yg1[u*4+(7-x2)]?.getD 0=y at h ho he hin;have hn:IntKind.i64.wrap (-y) = -y:=IntWalk.i64_in _ (by omega);have HO:=Lib.hid ho;have HE:=Lib.hid he;clear ho he hx2;by_cases h2:u%2=1
 ·have t1:((u:Int).tmod 2==1)=true:=by rw[Int.tmod_eq_emod_of_nonneg (by omega)];simp;omega
  have t2:((u:Int)%2==1)=true:=by simp;omega
  have HQ:=Lib.hid h2;clear h2
  go_enter Tryz.func78,Tryz.ntmps78
  go_wp2_with (first|(with_reducible refine wpList_buildTo rfl 54 _ rfl (some 6) rfl (hrow 0) (by kernel_rfl) ?_)|(with_reducible refine wpList_buildTo rfl 54 _ rfl (some 7) rfl (hrow 1) (by kernel_rfl) ?_)|(with_reducible refine wpList_buildTo rfl 54 _ rfl (some 8) rfl (hrow 2) (by kernel_rfl) ?_)|(with_reducible refine wpList_buildTo rfl 54 _ rfl (some 9) rfl (hrow 3) (by kernel_rfl) ?_)|(with_reducible refine wpList_buildTo rfl 54 _ rfl (some 10) rfl (hrow 4) (by kernel_rfl) ?_)|(with_reducible refine wpList_buildTo rfl 54 _ rfl (some 11) rfl (hrow 5) (by kernel_rfl) ?_)|(with_reducible refine wpList_buildTo rfl 54 _ rfl (some 12) rfl (hrow 6) (by kernel_rfl) ?_)|(with_reducible refine wpList_buildTo rfl 54 _ rfl (some 13) rfl (hrow 7) (by kernel_rfl) ?_)|(with_reducible refine wpList_buildTo rfl 109 _ rfl (some 14) rfl Yhf (by kernel_rfl) ?_)|(with_reducible refine Yap rfl 109 _ _ rfl Yhf Y 109 rfl rfl HSV HYV HOV ?_;rw[HWA.out,HB.out]))
  go_ret
  exact⟨Yav (HO.out HQ.out),by rw[HB.out];exact HBA.out⟩
 ·have t1:((u:Int).tmod 2==1)=false:=by rw[Int.tmod_eq_emod_of_nonneg (by omega)];simp;omega
  have t2:((u:Int)%2==1)=false:=by simp;omega
  have HQ:=Lib.hid h2;clear h2
  go_enter Tryz.func78,Tryz.ntmps78
  go_wp2_with (first|(with_reducible refine wpList_buildTo rfl 54 _ rfl (some 6) rfl (hrow 0) (by kernel_rfl) ?_)|(with_reducible refine wpList_buildTo rfl 54 _ rfl (some 7) rfl (hrow 1) (by kernel_rfl) ?_)|(with_reducible refine wpList_buildTo rfl 54 _ rfl (some 8) rfl (hrow 2) (by kernel_rfl) ?_)|(with_reducible refine wpList_buildTo rfl 54 _ rfl (some 9) rfl (hrow 3) (by kernel_rfl) ?_)|(with_reducible refine wpList_buildTo rfl 54 _ rfl (some 10) rfl (hrow 4) (by kernel_rfl) ?_)|(with_reducible refine wpList_buildTo rfl 54 _ rfl (some 11) rfl (hrow 5) (by kernel_rfl) ?_)|(with_reducible refine wpList_buildTo rfl 54 _ rfl (some 12) rfl (hrow 6) (by kernel_rfl) ?_)|(with_reducible refine wpList_buildTo rfl 54 _ rfl (some 13) rfl (hrow 7) (by kernel_rfl) ?_)|(with_reducible refine wpList_buildTo rfl 109 _ rfl (some 14) rfl Yhf (by kernel_rfl) ?_)|(with_reducible refine Yap rfl 109 _ _ rfl Yhf Y 109 rfl rfl HSV HYV HOV ?_;rw[HWA.out,HB.out]))
  go_ret
  exact⟨Yav (HE.out (by have:=HQ.out;omega)),by rw[HB.out];exact HBA.out⟩
theorem Ylg (u x:Nat)(hu:u<8)(hx:x<8)(w:World):Calls Tryz.prog 78 #[.int .i64 u,.int .i64 x] w fun e w'=>e=.returned (.int .i64 (wt (8*u+x)))∧Below w.heap.size w w':=by
 by_cases h:x<4
 ·exact Ynw u x hu h w
 ·have e:7-(7-x)=x:=by omega
  have h2:=Ylf u (7-x) hu (by omega) w;rw[e] at h2;exact h2
theorem Yp9:∀w,(zeroValue 86).run Tryz.prog w=.ok (.agg (arn 64 fun _=>0)) w:=Yeb (by kernel_rfl)
theorem Ymb (f:Nat→Int):(Tryz.prog.info? 86).map (·.size)=some (arn 64 f).size:=Ydn (by kernel_rfl) f
set_option maxRecDepth 100000 in
set_option maxHeartbeats 2000000 in
theorem Ykb (w:World):Calls Tryz.prog 54 #[] w (Ybj 64 wt w):=by
 obtain⟨Y,hY⟩:∃Y,arn 64 (fun _=>0)=Y:=⟨_,rfl⟩;have hz0:∀w,(zeroValue 86).run Tryz.prog w=.ok (.agg Y) w:=by rw[←hY];exact Yp9
 have HSY:Y.size=64:=by rw[←hY];exact Yaj _ _
 obtain⟨B,wA,wB,hB,hwA,hwB,hzA,hzB,hC0,hC1,hbC⟩:=Yex w (.cells Y 86 (0,0)) (.cells Y 86 (0,0));have hC1:wB.heap[B+1]? =some (Yca 86 64 (Ya9 wt (8*0+0))):=by rw[hC1,←hY];rfl
 have HY:=Lib.hid hY;have HWA:=Lib.hid hwA;have HWB:=Lib.hid hwB;have HB:=Lib.hid hB;clear hY hwA hwB hB
 go_enter Tryz.func54,Tryz.ntmps54
 go_wp2
 rw[HWA.out,HB.out,HWB.out]
 go_loopw [2] (fun z wr=>∃u:Nat,u≤8∧z=.int .i64 u∧wr.heap[B]? =some (.cells Y 86 (0,0))∧wr.heap[B+1]? =some (Yca 86 64 (Ya9 wt (8*u+0)))∧Below B w wr∧B+2≤wr.heap.size) (fun z _=>8-(intOf z).toNat)
 case atStart=>exact⟨0,by omega,rfl,hC0,hC1,hbC,by omega⟩
 case round=>
  clear hC0 hC1 hbC hzA hzB;obtain⟨u,hu8,rfl,h0,h1,hb,hz⟩:=hrel;by_cases hlt:u<8
  ·have t0:decide ((u:Int)<8)=true:=by simp;omega
   go_wp2
   go_loopw [3] (fun z wr=>∃x:Nat,x≤8∧z=.int .i64 x∧wr.heap[B]? =some (.cells Y 86 (0,0))∧wr.heap[B+1]? =some (Yca 86 64 (Ya9 wt (8*u+x)))∧Below B w wr∧B+2≤wr.heap.size) (fun z _=>8-(intOf z).toNat)
   case atStart=>exact⟨0,by omega,rfl,h0,h1,hb,hz⟩
   case round=>
    clear h0 h1 hb hz;obtain⟨x,hx8,rfl,h0,h1,hb,hz⟩:=hrel;by_cases hlx:x<8
    ·have t1:decide ((x:Int)<8)=true:=by simp;omega
     have b1:8*u+x<64:=by omega
     have C1:=Lib.hid (fun(x2:World) (hx2:Below wr.heap.size wr x2)=>((Ylg u x hlt hlx x2).mono fun e y h=>⟨h.1,hx2.trans (h.2.mono hx2.size)⟩:Calls Tryz.prog 78 #[.int .i64 u,.int .i64 x] x2 fun e y=>e=.returned (.int .i64 (wt (8*u+x)))∧Below wr.heap.size wr y));have S:=Lib.hid (show Ya9 wt (8*u+(x+1))=Yb7 (Ya9 wt (8*u+x)) (8*u+x) (wt (8*u+x)) from rfl);generalize wt (8*u+x)=y at C1 S
     have HH:=Lib.hid h0;have HI:=Lib.hid h1;have HB2:=Lib.hid hb;clear h0 h1 hb
     go_wp2
     refine Yag (S:=fun x=>Below wr.heap.size wr x) 7 (by kernel_rfl) (by kernel_rfl) (Below.refl _ _).drew ?_;simp only[List.take_succ_cons,List.take_zero,List.drop_succ_cons,List.drop_zero];refine Yab (v:=?v0) (by kernel_rfl) ?m ?_;(case m=>(intro x _;go_simp;try with_reducible rfl));simp only[Yaa];refine Yab (v:=?v1) (by kernel_rfl) ?m ?_;(case m=>(intro x _;go_simp;try with_reducible rfl))
     simp only[Yaa];refine Yab (v:=?v2) (by kernel_rfl) ?m ?_;(case m=>(intro x _;go_simp;try with_reducible rfl));simp only[Yaa];refine Yab (v:=?v3) (by kernel_rfl) ?m ?_;(case m=>(intro x _;go_simp;try with_reducible rfl));simp only[Yaa];refine Yai (by kernel_rfl) C1.out (fun _=>by kernel_rfl) ?_;simp only[Yaa]
     refine Yab (v:=?v5) (by kernel_rfl) ?m ?_;(case m=>(intro x _;go_simp;rw[if_pos (by omega)]));simp only[Yaa];refine Yab (v:=?v6) (by kernel_rfl) ?m ?_;(case m=>(intro x _;go_simp;rw[if_pos (by omega)]));simp only[Yaa];refine Yar fun x2 hx2=>?_;have k0:=(hx2.block B (by omega)).trans HH.out;have k1:=(hx2.block (B+1) (by omega)).trans HI.out;have kb:=HB2.out.trans (hx2.mono (by omega))
     have kz:B+2≤x2.heap.size:=Nat.le_trans hz hx2.size;have c1:=Ya7 k1 b1;have ff:=Yc0 (i:=8*u+x) k1;generalize Ya9 wt (8*u+x) (8*u+x)=y2 at c1;rw[show 8*u+x=u*8+x by omega] at c1 ff
     have PUT:=Lib.hid (fun(w2:World) (e:x2.setCell ⟨B+1,u*8+x,none⟩ (.int .i64 y)=w2)=>(by subst e;rw[show u*8+x=8*u+x by omega];exact⟨Yaq k0 (by simp),by rw[S.out];exact Ye4 y k1,kb.setCell (p:=⟨B+1,8*u+x,none⟩) (by simp) _,by simp[World.setCell];omega⟩:w2.heap[B]? =some (.cells Y 86 (0,0))∧w2.heap[B+1]? =some (Yca 86 64 (Ya9 wt (8*u+(x+1))))∧Below B w w2∧B+2≤w2.heap.size))
     clear k0 k1 kb hx2 HH HI HB2 C1 S
     go_wp2
     generalize hw2:x2.setCell _ _=w2;have F:=PUT.out w2 hw2;clear hw2 PUT c1 ff
     go_roundw
     case rel=>exact⟨x+1,by omega,by go_num,F⟩
     case measure=>simp[intOf];omega
    ·obtain rfl:x=8:=by omega
     have t1:decide ((8:Int)<8)=false:=by simp
     have h1':wr.heap[B+1]? =some (Yca 86 64 (Ya9 wt (8*(u+1)+0))):=h1;clear h1
     go_wp2
     go_roundw
     case rel=>exact⟨u+1,by omega,by go_num,h0,h1',hb,hz⟩
     case measure=>simp[intOf];omega
  ·obtain rfl:u=8:=by omega
   have t0:decide ((8:Int)<8)=false:=by simp
   obtain⟨V,hV⟩:∃V,arn 64 (Ya9 wt 64)=V:=⟨_,rfl⟩;have HV:=Lib.hid hV;have h1':wr.heap[B+1]? =some (.cells V 86 (0,0)):=by rw[←hV];exact h1
   have HSV:(Tryz.prog.info? 86).map (·.size)=some V.size:=by rw[←hV];exact Ymb _
   have HOV:V.all (·.oneCell')=true:=by rw[←hV];exact Yau _ _
   have HYV:Y.size=V.size:=by rw[←hV,HSY,Yaj]
   clear hV h1
   go_wp2_with (first|(with_reducible refine wpList_load_row rfl 86 _ rfl (B+1) rfl 86 V (0,0) _ h1' Tryz.underlying86 rfl HSV ?_)|(with_reducible refine Yad rfl 86 _ _ rfl B V Y rfl rfl 86 h0 HSV HYV HOV ?_;intro w2 hh2 hg2))
   refine bodyPost_ret (results_cell_row rfl _ _ B 86 _ (0,0) _ rfl hh2 Tryz.underlying86 rfl HSV) rfl ?_;exact Ydm (Ych 64 wt) HV.out (by rw[HB.out];exact hb.grown hg2 (by omega) (fun k hk=>by injection hk with hk;omega))
def Ygy (f g:Nat→Int)(Y:Array Value)(B Q R:Nat)(w wr:World):Prop:=wr.heap[B]? =some (Yb8 f)∧wr.heap[B+1]? =some (.cells Y 36 (0,0))∧wr.heap[Q]? =some (Yca 86 64 wt)∧wr.heap[R]? =some (Yb8 g)∧Below B w wr∧R+1≤wr.heap.size
theorem Ygy.below {f g:Nat→Int}{Y:Array Value}{B Q R:Nat}{w wr x:World}(h:Ygy f g Y B Q R w wr)(hq:Q<R)(hb:B+2≤Q)(hx:Below wr.heap.size wr x):Ygy f g Y B Q R w x:=by
 obtain⟨h0,h1,h2,h3,h4,h5⟩:=h;exact⟨(hx.block B (by omega)).trans h0,(hx.block (B+1) (by omega)).trans h1,(hx.block Q (by omega)).trans h2,(hx.block R (by omega)).trans h3,h4.trans (hx.mono (by omega)),Nat.le_trans h5 hx.size⟩
theorem Ygy.put {f g:Nat→Int}{Y:Array Value}{B Q R:Nat}{w wr x:World}(p:Nat)(y:Int)(h:Ygy f g Y B Q R w wr)(hq:Q<R)(hb:B+2≤Q)(e:wr.setCell ⟨R,p,none⟩ (.int .i64 y)=x):Ygy f (Yb7 g p y) Y B Q R w x:=by
 subst e;obtain⟨h0,h1,h2,h3,h4,h5⟩:=h;exact⟨Yaq h0 (by simp;omega),Yaq h1 (by simp;omega),Yaq h2 (by simp;omega),Yci y h3,h4.setCell (p:=⟨R,p,none⟩) (by simp;omega) _,by simpa [World.setCell] using h5⟩
theorem Ym8 (k:Nat→Nat→Int)(f:Nat→Int)(p n:Nat)(h:f n=0):Yct k (Ybg f) p n=0:=by
 unfold Yct Ybg;rw[h];exact Int.mul_zero _
theorem Yl2 {k:Nat→Nat→Int}{b:Nat→Int}(hk:InK k)(hb:InB 2048 b)(p n:Nat)(hp:p<64)(hn:n<64):-16222208≤Yct k b p n∧Yct k b p n≤16222208:=by
 have h1:=hk (p%8) (n%8) (by omega) (by omega);have h2:=hk (p / 8) (n / 8) (by omega) (by omega);have h3:=Ydp h1.1 h1.2 h2.1 h2.2;have h4:=hb n hn;exact Ydp (by omega:-7921≤k (p%8) (n%8)*k (p / 8) (n / 8)) (by omega) h4.1 h4.2
theorem Ypj {k:Nat→Nat→Int}{b:Nat→Int}(hk:InK k)(hb:InB 2048 b)(p:Nat)(hp:p<64)(n:Nat)(hn:n≤64):-1038221312≤Ycg n (Yct k b p)∧Ycg n (Yct k b p)≤1038221312:=by
 have h:=Ygs (M:=16222208) n fun i hi=>Yl2 hk hb p i hp (by omega);omega
theorem Yt7 (p u:Nat)(h:p%8=u):(p:Int).tmod 8=(u:Int)∧(p:Int)%8=(u:Int):=by
 rw[Int.tmod_eq_emod_of_nonneg (by omega)];omega
theorem Yt4 (p v:Nat)(h:p / 8=v):(p:Int).tdiv 8=(v:Int)∧(p:Int) / 8=(v:Int):=by
 rw[Int.tdiv_eq_ediv_of_nonneg (by omega)];omega
set_option maxRecDepth 100000 in
set_option maxHeartbeats 2000000 in
theorem Yrf (f:Nat→Int)(w:World):Calls Tryz.prog 38 #[.agg (Yay f)] w (Ybj 64 (Yfw f) w):=by
 obtain⟨X,hX⟩:∃X,Yay f=X:=⟨_,rfl⟩;obtain⟨Y,hY⟩:∃Y,arn 64 (fun _=>0)=Y:=⟨_,rfl⟩;have hza:∀w,(zeroValue 36).run Tryz.prog w=.ok (.agg Y) w:=by rw[←hY];exact Ybd
 have hzs:∀w,(zeroValue 86).run Tryz.prog w=.ok (.agg Y) w:=by rw[←hY];exact Yp9
 have HSY:Y.size=64:=by rw[←hY];exact Yaj _ _
 obtain⟨B,wA,wB,hB,hwA,hwB,hzA,hzB,hC0,hC1,hbC⟩:=Yex w (.cells X 36 (0,0)) (.cells Y 36 (0,0));have hC0:wB.heap[B]? =some (Yb8 f):=by rw[hC0,←hX];rfl
 have HSV:(Tryz.prog.info? 86).map (·.size)=some (arn 64 wt).size:=Ymb _;have HOV:=Yau 64 wt;have HYV:Y.size=(arn 64 wt).size:=by rw[HSY,Yaj]
 have C0:=Lib.hid (fun x=>Ykb x);unfold Ybj at C0;rw[hX];generalize hV:arn 64 wt=V at C0 HSV HOV HYV;have HV:=Lib.hid hV;have HY:=Lib.hid hY;have HWA:=Lib.hid hwA;have HWB:=Lib.hid hwB;have HB:=Lib.hid hB;clear hX hY hwA hwB hB hV
 go_enter Tryz.func38,Tryz.ntmps38
 go_wp2_with fail
 rw[HWA.out,HB.out,HWB.out];refine(C0.out _).mono ?_;rintro e w1 ⟨rfl,hb1⟩;obtain⟨Q,w2,w3,hQ,hw2,hw3,hz2,hz3,k2,k3,hb3⟩:=Yex w1 (.cells V 86 (0,0)) (.cells Y 36 (0,0));have hQB:B+2≤Q:=by have:=hb1.size;omega
 have hR:Ygy f (Ya9 (Yfw f) 0) Y B Q (Q+1) w w3:=by
  refine⟨?_,?_,?_,?_,(hbC.trans (hb1.mono (by omega))).trans (hb3.mono (by omega)),by omega⟩
  ·exact(hb3.block B (by omega)).trans ((hb1.block B (by omega)).trans hC0)
  ·exact(hb3.block (B+1) (by omega)).trans ((hb1.block (B+1) (by omega)).trans hC1)
  ·rw[k2,←HV.out];rfl
  ·rw[k3,←HY.out];rfl
 have HQ:=Lib.hid hQ;have HW2:=Lib.hid hw2;have HW3:=Lib.hid hw3;have HR:=Lib.hid hR;have HZ2:=Lib.hid hz2;clear hb1 hQ hw2 hw3 hz2 hz3 k2 k3 hb3 hR hC0 hC1 hbC hzA hzB C0
 go_wp2_with (with_reducible refine Yap rfl 86 _ _ rfl V Y 86 rfl rfl HSV HYV HOV ?_;rw[HW2.out])
 rw[HQ.out,HW3.out,HZ2.out];clear hza hzs HSV HOV HYV
 go_loopw [5] (fun z wr=>∃p:Nat,p≤64∧z=.int .i64 p∧Hid (Ygy f (Ya9 (Yfw f) p) Y B Q (Q+1) w wr)) (fun z _=>64-(intOf z).toNat)
 case atStart=>exact⟨0,by omega,rfl,HR⟩
 case round=>
  clear HR;obtain⟨p,hp64,rfl,hR⟩:=hrel;by_cases hlt:p<64
  ·have t0:decide ((p:Int)<64)=true:=by simp;omega
   go_wp2
   go_loopw [6,7] (fun t z wr=>∃n:Nat,n≤64∧z=.int .i64 n∧t=.int .i64 (Ycg n (Yct kI (Ybg f) p))∧Hid (Ygy f (Ya9 (Yfw f) p) Y B Q (Q+1) w wr)) (fun _ z _=>64-(intOf z).toNat)
   case atStart=>exact⟨0,by omega,rfl,rfl,hR⟩
   case round=>
    clear hR;obtain⟨n,hn64,rfl,rfl,hR⟩:=hrel;by_cases hln:n<64
    ·have t1:decide ((n:Int)<64)=true:=by simp;omega
     by_cases hz:f n=0
     ·have S:Ycg (n+1) (Yct kI (Ybg f) p)=Ycg n (Yct kI (Ybg f) p):=by
       show Ycg n (Yct kI (Ybg f) p)+Yct kI (Ybg f) p n=_;rw[Ym8 kI f p n hz,Int.add_zero]
      have HS:=Lib.hid S;have c0:=Ya3 hR.out.1 hln;rw[hz] at c0;clear S hz;generalize Ycg n (Yct kI (Ybg f) p)=s at HS ⊢
      go_wp2
      go_roundw
      case rel=>exact⟨n+1,by omega,by go_num,by rw[HS.out],hR⟩
      case measure=>simp[intOf];omega
     ·have c0:=Ya3 hR.out.1 hln;obtain⟨x,hx⟩:∃x,n%8=x:=⟨_,rfl⟩;obtain⟨y,hy⟩:∃y,n / 8=y:=⟨_,rfl⟩;obtain⟨u,hu⟩:∃u,p%8=u:=⟨_,rfl⟩;obtain⟨v,hv⟩:∃v,p / 8=v:=⟨_,rfl⟩;obtain⟨r1,r2⟩:=Yt7 n x hx;obtain⟨r3,r4⟩:=Yt4 n y hy;obtain⟨r5,r6⟩:=Yt7 p u hu;obtain⟨r7,r8⟩:=Yt4 p v hv;have r9:IntKind.i64.wrap (v:Int)=(v:Int):=IntWalk.i64_in _ (by omega)
      have r10:IntKind.i64.wrap (y:Int)=(y:Int):=IntWalk.i64_in _ (by omega);have b1:x<8:=by omega
      have b2:y<8:=by omega
      have b3:u<8:=by omega
      have b4:v<8:=by omega
      have m1:=Ypj Yo3 (Yfu f) p hlt n (by omega);have m2:=Yl2 Yo3 (Yfu f) p n hlt hln;have S:Ycg (n+1) (Yct kI (Ybg f) p)=Ycg n (Yct kI (Ybg f) p)+wt (x*8+u)*wt (y*8+v)*Ya4 (f n) (-2048) 2047:=by
       show Ycg n (Yct kI (Ybg f) p)+kI (p%8) (n%8)*kI (p / 8) (n / 8)*Ya4 (f n) (-2048) 2047=_;rw[hx,hy,hu,hv];unfold kI;rw[Nat.mul_comm 8 x,Nat.mul_comm 8 y]
      have e2:Yct kI (Ybg f) p n=wt (x*8+u)*wt (y*8+v)*Ya4 (f n) (-2048) 2047:=by
       show kI (p%8) (n%8)*kI (p / 8) (n / 8)*Ya4 (f n) (-2048) 2047=_;rw[hx,hy,hu,hv];unfold kI;rw[Nat.mul_comm 8 x,Nat.mul_comm 8 y]
      rw[e2] at m2;have i1:=Yts (x*8+u) (by omega);have i2:=Yts (y*8+v) (by omega);have i3:=Ydp i1.1 i1.2 i2.1 i2.2;have HK:=Lib.hid (fun(x2:World) (hx2:Below wr.heap.size wr x2)=>hR.out.below (by omega) hQB hx2);have K1:=Lib.hid (fun(x2:World) (hx2:Below wr.heap.size wr x2)=>Ya7 (HK.out x2 hx2).2.2.1 (show x*8+u<64 by omega))
      have K2:=Lib.hid (fun(x2:World) (hx2:Below wr.heap.size wr x2)=>Ya7 (HK.out x2 hx2).2.2.1 (show y*8+v<64 by omega));have K3:=Lib.hid (fun(x2:World) (hx2:Below wr.heap.size wr x2)=>Ya3 (HK.out x2 hx2).1 hln)
      have C1:=Lib.hid (fun(x2:World) (hx2:Below wr.heap.size wr x2)=>((Ybi (f n) (-2048) 2047 x2).mono fun e y h=>⟨h.1,h.2▸hx2⟩:Calls Tryz.prog 36 #[.int .i64 (f n),.int .i64 (-2048),.int .i64 2047] x2 fun e y=>e=.returned (.int .i64 (Ya4 (f n) (-2048) 2047))∧Below wr.heap.size wr y));have tz:((f n)==0)=false:=by simpa using hz
      have HS:=Lib.hid S;clear S e2 hx hy hu hv hz hR;generalize Ycg n (Yct kI (Ybg f) p)=s at HS m1 ⊢;generalize Ya4 (f n) (-2048) 2047=z4 at HS m2 C1;generalize f n=z3 at c0 tz K3 C1;generalize wt (x*8+u)=z1 at HS m2 i1 i3 K1;generalize wt (y*8+v)=z2 at HS m2 i2 i3 K2;obtain⟨z5,hz5⟩:∃z5,z1*z2=z5:=⟨_,rfl⟩;rw[hz5] at HS m2 i3;obtain⟨z6,hz6⟩:∃z6,z5*z4=z6:=⟨_,rfl⟩;rw[hz6] at HS m2
      obtain⟨z7,hz7⟩:∃z7,s+z6=z7:=⟨_,rfl⟩;rw[hz7] at HS;have q1:IntKind.i64.wrap (z1*z2)=z5:=by rw[hz5];exact IntWalk.i64_in z5 (by omega)
      have q2:IntKind.i64.wrap (z5*z4)=z6:=by rw[hz6];exact IntWalk.i64_in z6 (by omega)
      have q3:IntKind.i64.wrap (s+z6)=z7:=by rw[hz7];exact IntWalk.i64_in z7 (by omega)
      clear hz5 hz6 hz7 m1 m2 i1 i2 i3
      go_wp2
      refine Yag (S:=fun x=>Below wr.heap.size wr x) 23 (by kernel_rfl) (by kernel_rfl) (Below.refl _ _).drew ?_;simp only[List.take_succ_cons,List.take_zero,List.drop_succ_cons,List.drop_zero];refine Yab (v:=?va0) (by kernel_rfl) ?m ?_;(case m=>(intro x _;go_simp;try with_reducible rfl));simp only[Yaa];refine Yab (v:=?va1) (by kernel_rfl) ?m ?_;(case m=>(intro x _;go_simp;try with_reducible rfl))
      simp only[Yaa];refine Yab (v:=?va2) (by kernel_rfl) ?m ?_;(case m=>(intro x _;go_simp;try with_reducible rfl));simp only[Yaa];refine Yab (v:=?va3) (by kernel_rfl) ?m ?_;(case m=>(intro x _;go_simp;try with_reducible rfl));simp only[Yaa];refine Yab (v:=?va4) (by kernel_rfl) ?m ?_;(case m=>(intro x _;go_simp;try with_reducible rfl));simp only[Yaa]
      refine Yab (v:=?va5) (by kernel_rfl) ?m ?_;(case m=>(intro x _;go_simp;rw[if_pos (by omega)]));simp only[Yaa];refine Yab (v:=?va6) (by kernel_rfl) ?m ?_;(case m=>(intro x _;go_simp;rw[if_pos (by omega)]));simp only[Yaa];refine Yaf 3 _ ⟨Q,x*8+u,none⟩ (.int .i64 z1) (by kernel_rfl) rfl rfl (fun x hx=>by have c0:=K1.out x hx;go_simp) ?_;simp only[Yaa]
      refine Yab (v:=?va8) (by kernel_rfl) ?m ?_;(case m=>(intro x _;go_simp;try with_reducible rfl));simp only[Yaa];refine Yab (v:=?va9) (by kernel_rfl) ?m ?_;(case m=>(intro x _;go_simp;try with_reducible rfl));simp only[Yaa];refine Yab (v:=?va10) (by kernel_rfl) ?m ?_;(case m=>(intro x _;go_simp;try with_reducible rfl));simp only[Yaa]
      refine Yab (v:=?va11) (by kernel_rfl) ?m ?_;(case m=>(intro x _;go_simp;try with_reducible rfl));simp only[Yaa];refine Yab (v:=?va12) (by kernel_rfl) ?m ?_;(case m=>(intro x _;go_simp;rw[if_pos (by omega)]));simp only[Yaa];refine Yab (v:=?va13) (by kernel_rfl) ?m ?_;(case m=>(intro x _;go_simp;rw[if_pos (by omega)]));simp only[Yaa]
      refine Yaf 3 _ ⟨Q,y*8+v,none⟩ (.int .i64 z2) (by kernel_rfl) rfl rfl (fun x hx=>by have c0:=K2.out x hx;go_simp) ?_;simp only[Yaa];refine Yab (v:=?va15) (by kernel_rfl) ?m ?_;(case m=>(intro x _;go_simp;try with_reducible rfl));simp only[Yaa];refine Yab (v:=?va16) (by kernel_rfl) ?m ?_;(case m=>(intro x _;go_simp;try with_reducible rfl));simp only[Yaa]
      refine Yab (v:=?va17) (by kernel_rfl) ?m ?_;(case m=>(intro x _;go_simp;rw[if_pos (by omega)]));simp only[Yaa];refine Yaf 3 _ ⟨B,n,none⟩ (.int .i64 z3) (by kernel_rfl) rfl rfl (fun x hx=>by have c0:=K3.out x hx;go_simp) ?_;simp only[Yaa];refine Yai (by kernel_rfl) C1.out (fun _=>by kernel_rfl) ?_;simp only[Yaa]
      refine Yab (v:=?va20) (by kernel_rfl) ?m ?_;(case m=>(intro x _;go_simp;try with_reducible rfl));simp only[Yaa];refine Yab (v:=?va21) (by kernel_rfl) ?m ?_;(case m=>(intro x _;go_simp;try with_reducible rfl));simp only[Yaa];refine Yab (v:=?va22) (by kernel_rfl) ?m ?_;(case m=>(intro x _;go_simp;try with_reducible rfl));simp only[Yaa];refine Yar fun x2 hx2=>?_
      have hR2:=Lib.hid (HK.out x2 hx2);clear hx2 HK K1 K2 K3 C1 c0 r1 r2 r3 r4 r5 r6 r7 r8 r9 r10 q1 q2 q3
      go_wp2
      go_roundw
      case rel=>exact⟨n+1,by omega,by go_num,by rw[HS.out],hR2⟩
      case measure=>simp[intOf];omega
    ·obtain rfl:n=64:=by omega
     have t1:decide ((64:Int)<64)=false:=by simp
     have S:=Lib.hid (show Ya9 (Yfw f) (p+1)=Yb7 (Ya9 (Yfw f) p) p (Yfw f p) from rfl);have e1:Yfw f p=Ya4 (round (Ycg 64 (Yct kI (Ybg f) p)) 15) (-256) 255:=by
      show Ya4 (round (Ycj kI (Ycj kI (Ybg f)) p) 15) (-256) 255=_;rw[Ynt]
     rw[e1] at S;have cr:=fun w=>Yng (Ycg 64 (Yct kI (Ybg f) p)) 15 w;have cv:=fun w=>Ybi (round (Ycg 64 (Yct kI (Ybg f) p)) 15) (-256) 255 w;generalize Ya4 (round (Ycg 64 (Yct kI (Ybg f) p)) 15) (-256) 255=y at cv S;generalize round (Ycg 64 (Yct kI (Ybg f) p)) 15=y1 at cv cr;generalize Ycg 64 (Yct kI (Ybg f) p)=y3 at cr ⊢;have c2:=Ya3 hR.out.2.2.2.1 hlt;have ff:=Yb3 (i:=p) hR.out.2.2.2.1
     generalize Ya9 (Yfw f) p p=y2 at c2;have PUT:=Lib.hid (fun(w2:World) (e:wr.setCell ⟨Q+1,p,none⟩ (.int .i64 y)=w2)=>(by rw[S.out];exact hR.out.put p y (by omega) hQB e:Ygy f (Ya9 (Yfw f) (p+1)) Y B Q (Q+1) w w2));clear e1 hR S
     go_wp2_with (first|(with_reducible refine(cr _).mono ?_;rintro e w4 ⟨rfl,rfl⟩)|(with_reducible refine(cv _).mono ?_;rintro e w4 ⟨rfl,rfl⟩))
     generalize hw2:wr.setCell _ _=w2;have F:=Lib.hid (PUT.out w2 hw2);clear hw2 PUT c2 ff cr cv
     go_roundw
     case rel=>exact⟨p+1,by omega,by go_num,F⟩
     case measure=>simp[intOf];omega
  ·obtain rfl:p=64:=by omega
   have t0:decide ((64:Int)<64)=false:=by simp
   obtain⟨V2,hV2⟩:∃V2,arn 64 (Ya9 (Yfw f) 64)=V2:=⟨_,rfl⟩;have HV2:=Lib.hid hV2;obtain⟨h0,h1,h2,h3,hb,hz⟩:=hR.out;have h3':wr.heap[Q+1]? =some (.cells V2 36 (0,0)):=by rw[←hV2];exact h3
   have HSV:(Tryz.prog.info? 36).map (·.size)=some V2.size:=by rw[←hV2];exact Yan _
   have HOV:V2.all (·.oneCell')=true:=by rw[←hV2];exact Yau _ _
   have HYV:Y.size=V2.size:=by rw[←hV2,HSY,Yaj]
   clear hV2 h3 h2 h0 hR
   go_wp2_with (first|(with_reducible refine wpList_load_row rfl 36 _ rfl (Q+1) rfl 36 V2 (0,0) _ h3' Tryz.underlying36 rfl HSV ?_)|(with_reducible refine Yad rfl 36 _ _ rfl (B+1) V2 Y rfl rfl 36 h1 HSV HYV HOV ?_;intro w2 hh2 hg2))
   refine bodyPost_ret (results_cell_row rfl _ _ (B+1) 36 _ (0,0) _ rfl hh2 Tryz.underlying36 rfl HSV) rfl ?_;exact Ydm (Ych 64 (Yfw f)) HV2.out (by rw[HB.out];exact hb.grown hg2 (by omega) (fun k hk=>by injection hk with hk;omega))
end Go.Proofs.YtdnjefldijjgdaaGreatDoor