/- No condition. -/
import Derived.Test.YtnamlooifcpoaaaGreatDoorScreensNextMa
import Derived.Test.YtnamlooifcpoaaaGreatDoorScreensNextMb
import Derived.Test.YtnamlooifcpoaaaGreatDoorScreensNextMg
import Derived.Test.YtnamlooifcpoaaaGreatDoorScreensNextMh
import Derived.Test.YtnamlooifcpoaaaGreatDoorScreensNextMo
import Derived.WalkMore
import Derived.IntWalk
import Derived.Great.BuildSlice
import Derived.BigQuiet
import Derived.Deep.QuietTactic
namespace Go.Proofs.YtnamlooifcpoaaaGreatDoor
open Go.RowKit Go.Lib
def Yko:List Int:=[64,64,64,64,89,75,50,18,83,36,-36,-83,75,-18,-89,-50,64,-64,-64,64,50,-89,18,75,36,-83,83,-36,18,-50,75,-89]
theorem Ywh:∀u,u<8→∀x,x<4→Yko[u*4+x]?.getD 0=wt (8*u+x):=by decide +kernel
theorem Yzp:∀u,u<8→∀x,x<4→u%2=1→-(Yko[u*4+x]?.getD 0)=wt (8*u+(7-x)):=by decide +kernel
theorem Ywg:∀u,u<8→∀x,x<4→u%2=0→Yko[u*4+x]?.getD 0=wt (8*u+(7-x)):=by decide +kernel
theorem Yzo:∀i,i<32→-89≤Yko[i]?.getD 0∧Yko[i]?.getD 0≤89:=by decide +kernel
def hrow (k:Nat):Array Value:=arn 4 fun i=>Yko[4*k+i]?.getD 0
def Yh4:Array Value:=arn 32 fun i=>Yko[i]?.getD 0
set_option maxRecDepth 100000 in
set_option maxHeartbeats 2000000 in
theorem Yu2 (u x:Nat)(hu:u<8)(hx:x<4)(w:World):Calls Tryz.prog 113 #[.int .i64 u,.int .i64 x] w fun e w'=>e=.returned (.int .i64 (wt (8*u+x)))∧Below w.heap.size w w':=by
 obtain⟨Y,hY⟩:∃Y,arn 32 (fun _=>0)=Y:=⟨_,rfl⟩;have hz0:∀w,(zeroValue 171).run Tryz.prog w=.ok (.agg Y) w:=by rw[←hY];exact Yf8 (by kernel_rfl)
 have HSV:(Tryz.prog.info? 171).map (·.size)=some Yh4.size:=Ye6 (by kernel_rfl) _;have HOV:Yh4.all (·.oneCell')=true:=Ybd 32 _;have HYV:Y.size=Yh4.size:=by rw[←hY];unfold Yh4;rw[Yan,Yan]
 obtain⟨B,hB⟩:∃B,w.heap.size=B:=⟨_,rfl⟩;obtain⟨wA,hwA⟩:∃wA,w.alloc (.cells Yh4 171 (0,0))=wA:=⟨_,rfl⟩;have hA:wA.heap[B]? =some (Yc4 171 32 fun i=>Yko[i]?.getD 0):=by rw[←hwA,←hB];exact heap_alloc_new w _
 have hbA:Below B w wA:=by rw[←hwA,←hB];exact(Below.refl _ _).alloc (Nat.le_refl _) _
 have h:=Ybt hA (show u*4+x<32 by omega);have HB:=Lib.hid hB;have HWA:=Lib.hid hwA;have HBA:=Lib.hid hbA;clear hY hwA hB hA hbA;have t0:decide ((x:Int)<4)=true:=by simp;omega
 rw[Ywh u hu x hx] at h;generalize wt (8*u+x)=y at h ⊢
 go_enter Tryz.func113,Tryz.ntmps113
 go_wp2_with (first|(with_reducible refine wpList_buildTo rfl 75 _ rfl (some 6) rfl (hrow 0) (by kernel_rfl) ?_)|(with_reducible refine wpList_buildTo rfl 75 _ rfl (some 7) rfl (hrow 1) (by kernel_rfl) ?_)|(with_reducible refine wpList_buildTo rfl 75 _ rfl (some 8) rfl (hrow 2) (by kernel_rfl) ?_)|(with_reducible refine wpList_buildTo rfl 75 _ rfl (some 9) rfl (hrow 3) (by kernel_rfl) ?_)|(with_reducible refine wpList_buildTo rfl 75 _ rfl (some 10) rfl (hrow 4) (by kernel_rfl) ?_)|(with_reducible refine wpList_buildTo rfl 75 _ rfl (some 11) rfl (hrow 5) (by kernel_rfl) ?_)|(with_reducible refine wpList_buildTo rfl 75 _ rfl (some 12) rfl (hrow 6) (by kernel_rfl) ?_)|(with_reducible refine wpList_buildTo rfl 75 _ rfl (some 13) rfl (hrow 7) (by kernel_rfl) ?_)|(with_reducible refine wpList_buildTo rfl 171 _ rfl (some 14) rfl Yh4 (by kernel_rfl) ?_)|(with_reducible refine Yai rfl 171 _ _ rfl Yh4 Y 171 rfl rfl HSV HYV HOV ?_;rw[HWA.out,HB.out]))
 go_ret
 exact⟨rfl,by rw[HB.out];exact HBA.out⟩
set_option maxRecDepth 100000 in
set_option maxHeartbeats 2000000 in
theorem Yq6 (u x:Nat)(hu:u<8)(hx:x<4)(w:World):Calls Tryz.prog 113 #[.int .i64 u,.int .i64 ((7-x:Nat):Int)] w fun e w'=>e=.returned (.int .i64 (wt (8*u+(7-x))))∧Below w.heap.size w w':=by
 obtain⟨Y,hY⟩:∃Y,arn 32 (fun _=>0)=Y:=⟨_,rfl⟩;have hz0:∀w,(zeroValue 171).run Tryz.prog w=.ok (.agg Y) w:=by rw[←hY];exact Yf8 (by kernel_rfl)
 have HSV:(Tryz.prog.info? 171).map (·.size)=some Yh4.size:=Ye6 (by kernel_rfl) _;have HOV:Yh4.all (·.oneCell')=true:=Ybd 32 _;have HYV:Y.size=Yh4.size:=by rw[←hY];unfold Yh4;rw[Yan,Yan]
 obtain⟨B,hB⟩:∃B,w.heap.size=B:=⟨_,rfl⟩;obtain⟨wA,hwA⟩:∃wA,w.alloc (.cells Yh4 171 (0,0))=wA:=⟨_,rfl⟩;have hA:wA.heap[B]? =some (Yc4 171 32 fun i=>Yko[i]?.getD 0):=by rw[←hwA,←hB];exact heap_alloc_new w _
 have hbA:Below B w wA:=by rw[←hwA,←hB];exact(Below.refl _ _).alloc (Nat.le_refl _) _
 have h:=Ybt hA (show u*4+x<32 by omega);have HB:=Lib.hid hB;have HWA:=Lib.hid hwA;have HBA:=Lib.hid hbA;clear hY hwA hB hA hbA;have hin:=Yzo (u*4+x) (by omega);have ho:=Yzp u hu x hx;have he:=Ywg u hu x hx;obtain⟨x2,hx2⟩:∃x2,7-x=x2:=⟨_,rfl⟩;obtain rfl:x=7-x2:=by omega
 have t0:decide ((x2:Int)<4)=false:=by simp;omega
 have b2:x2≤7:=by omega
 rw[hx2] at ho he ⊢;generalize Yko[u*4+(7-x2)]?.getD 0=y at h ho he hin;have hn:IntKind.i64.wrap (-y) = -y:=IntWalk.i64_in _ (by omega);have HO:=Lib.hid ho;have HE:=Lib.hid he;clear ho he hx2;by_cases h2:u%2=1
 ·have t1:((u:Int).tmod 2==1)=true:=by rw[Int.tmod_eq_emod_of_nonneg (by omega)];simp;omega
  have t2:((u:Int)%2==1)=true:=by simp;omega
  have HQ:=Lib.hid h2;clear h2
  go_enter Tryz.func113,Tryz.ntmps113
  go_wp2_with (first|(with_reducible refine wpList_buildTo rfl 75 _ rfl (some 6) rfl (hrow 0) (by kernel_rfl) ?_)|(with_reducible refine wpList_buildTo rfl 75 _ rfl (some 7) rfl (hrow 1) (by kernel_rfl) ?_)|(with_reducible refine wpList_buildTo rfl 75 _ rfl (some 8) rfl (hrow 2) (by kernel_rfl) ?_)|(with_reducible refine wpList_buildTo rfl 75 _ rfl (some 9) rfl (hrow 3) (by kernel_rfl) ?_)|(with_reducible refine wpList_buildTo rfl 75 _ rfl (some 10) rfl (hrow 4) (by kernel_rfl) ?_)|(with_reducible refine wpList_buildTo rfl 75 _ rfl (some 11) rfl (hrow 5) (by kernel_rfl) ?_)|(with_reducible refine wpList_buildTo rfl 75 _ rfl (some 12) rfl (hrow 6) (by kernel_rfl) ?_)|(with_reducible refine wpList_buildTo rfl 75 _ rfl (some 13) rfl (hrow 7) (by kernel_rfl) ?_)|(with_reducible refine wpList_buildTo rfl 171 _ rfl (some 14) rfl Yh4 (by kernel_rfl) ?_)|(with_reducible refine Yai rfl 171 _ _ rfl Yh4 Y 171 rfl rfl HSV HYV HOV ?_;rw[HWA.out,HB.out]))
  go_ret
  exact⟨Ya6 (HO.out HQ.out),by rw[HB.out];exact HBA.out⟩
 ·have t1:((u:Int).tmod 2==1)=false:=by rw[Int.tmod_eq_emod_of_nonneg (by omega)];simp;omega
  have t2:((u:Int)%2==1)=false:=by simp;omega
  have HQ:=Lib.hid h2;clear h2
  go_enter Tryz.func113,Tryz.ntmps113
  go_wp2_with (first|(with_reducible refine wpList_buildTo rfl 75 _ rfl (some 6) rfl (hrow 0) (by kernel_rfl) ?_)|(with_reducible refine wpList_buildTo rfl 75 _ rfl (some 7) rfl (hrow 1) (by kernel_rfl) ?_)|(with_reducible refine wpList_buildTo rfl 75 _ rfl (some 8) rfl (hrow 2) (by kernel_rfl) ?_)|(with_reducible refine wpList_buildTo rfl 75 _ rfl (some 9) rfl (hrow 3) (by kernel_rfl) ?_)|(with_reducible refine wpList_buildTo rfl 75 _ rfl (some 10) rfl (hrow 4) (by kernel_rfl) ?_)|(with_reducible refine wpList_buildTo rfl 75 _ rfl (some 11) rfl (hrow 5) (by kernel_rfl) ?_)|(with_reducible refine wpList_buildTo rfl 75 _ rfl (some 12) rfl (hrow 6) (by kernel_rfl) ?_)|(with_reducible refine wpList_buildTo rfl 75 _ rfl (some 13) rfl (hrow 7) (by kernel_rfl) ?_)|(with_reducible refine wpList_buildTo rfl 171 _ rfl (some 14) rfl Yh4 (by kernel_rfl) ?_)|(with_reducible refine Yai rfl 171 _ _ rfl Yh4 Y 171 rfl rfl HSV HYV HOV ?_;rw[HWA.out,HB.out]))
  go_ret
  exact⟨Ya6 (HE.out (by have:=HQ.out;omega)),by rw[HB.out];exact HBA.out⟩
theorem Yq7 (u x:Nat)(hu:u<8)(hx:x<8)(w:World):Calls Tryz.prog 113 #[.int .i64 u,.int .i64 x] w fun e w'=>e=.returned (.int .i64 (wt (8*u+x)))∧Below w.heap.size w w':=by
 by_cases h:x<4
 ·exact Yu2 u x hu h w
 ·have e:7-(7-x)=x:=by omega
  have h2:=Yq6 u (7-x) hu (by omega) w;rw[e] at h2;exact h2
theorem Yyp:∀w,(zeroValue 130).run Tryz.prog w=.ok (.agg (arn 64 fun _=>0)) w:=Yf8 (by kernel_rfl)
theorem Ysl (f:Nat→Int):(Tryz.prog.info? 130).map (·.size)=some (arn 64 f).size:=Ye6 (by kernel_rfl) f
set_option maxRecDepth 100000 in
set_option maxHeartbeats 2000000 in
theorem Ypp (w:World):Calls Tryz.prog 88 #[] w (Yb8 64 wt w):=by
 obtain⟨Y,hY⟩:∃Y,arn 64 (fun _=>0)=Y:=⟨_,rfl⟩;have hz0:∀w,(zeroValue 130).run Tryz.prog w=.ok (.agg Y) w:=by rw[←hY];exact Yyp
 have HSY:Y.size=64:=by rw[←hY];exact Yan _ _
 obtain⟨B,wA,wB,hB,hwA,hwB,hzA,hzB,hC0,hC1,hbC⟩:=Yej w (.cells Y 130 (0,0)) (.cells Y 130 (0,0));have hC1:wB.heap[B+1]? =some (Yc4 130 64 (Ybo wt (8*0+0))):=by rw[hC1,←hY];rfl
 have HY:=Lib.hid hY;have HWA:=Lib.hid hwA;have HWB:=Lib.hid hwB;have HB:=Lib.hid hB;clear hY hwA hwB hB
 go_enter Tryz.func88,Tryz.ntmps88
 go_wp2
 rw[HWA.out,HB.out,HWB.out]
 go_loopw [2] (fun z wr=>∃u:Nat,u≤8∧z=.int .i64 u∧wr.heap[B]? =some (.cells Y 130 (0,0))∧wr.heap[B+1]? =some (Yc4 130 64 (Ybo wt (8*u+0)))∧Below B w wr∧B+2≤wr.heap.size) (fun z _=>8-(intOf z).toNat)
 case atStart=>exact⟨0,by omega,rfl,hC0,hC1,hbC,by omega⟩
 case round=>
  clear hC0 hC1 hbC hzA hzB;obtain⟨u,hu8,rfl,h0,h1,hb,hz⟩:=hrel;by_cases hlt:u<8
  ·have t0:decide ((u:Int)<8)=true:=by simp;omega
   go_wp2
   go_loopw [3] (fun z wr=>∃x:Nat,x≤8∧z=.int .i64 x∧wr.heap[B]? =some (.cells Y 130 (0,0))∧wr.heap[B+1]? =some (Yc4 130 64 (Ybo wt (8*u+x)))∧Below B w wr∧B+2≤wr.heap.size) (fun z _=>8-(intOf z).toNat)
   case atStart=>exact⟨0,by omega,rfl,h0,h1,hb,hz⟩
   case round=>
    clear h0 h1 hb hz;obtain⟨x,hx8,rfl,h0,h1,hb,hz⟩:=hrel;by_cases hlx:x<8
    ·have t1:decide ((x:Int)<8)=true:=by simp;omega
     have b1:8*u+x<64:=by omega
     have C1:=Lib.hid (fun(x2:World) (hx2:Below wr.heap.size wr x2)=>((Yq7 u x hlt hlx x2).mono fun e y h=>⟨h.1,hx2.trans (h.2.mono hx2.size)⟩:Calls Tryz.prog 113 #[.int .i64 u,.int .i64 x] x2 fun e y=>e=.returned (.int .i64 (wt (8*u+x)))∧Below wr.heap.size wr y));have S:=Lib.hid (show Ybo wt (8*u+(x+1))=Ycr (Ybo wt (8*u+x)) (8*u+x) (wt (8*u+x)) from rfl);generalize wt (8*u+x)=y at C1 S
     have HH:=Lib.hid h0;have HI:=Lib.hid h1;have HB2:=Lib.hid hb;clear h0 h1 hb
     go_wp2
     refine Yaf (S:=fun x=>Below wr.heap.size wr x) 7 (by kernel_rfl) (by kernel_rfl) (Below.refl _ _).drew ?_;simp only[List.take_succ_cons,List.take_zero,List.drop_succ_cons,List.drop_zero];refine Yab (v:=?v0) (by kernel_rfl) ?m ?_;(case m=>(intro x _;go_simp;try with_reducible rfl));simp only[Yaa];refine Yab (v:=?v1) (by kernel_rfl) ?m ?_;(case m=>(intro x _;go_simp;try with_reducible rfl))
     simp only[Yaa];refine Yab (v:=?v2) (by kernel_rfl) ?m ?_;(case m=>(intro x _;go_simp;try with_reducible rfl));simp only[Yaa];refine Yab (v:=?v3) (by kernel_rfl) ?m ?_;(case m=>(intro x _;go_simp;try with_reducible rfl));simp only[Yaa];refine Yah (by kernel_rfl) C1.out (fun _=>by kernel_rfl) ?_;simp only[Yaa]
     refine Yab (v:=?v5) (by kernel_rfl) ?m ?_;(case m=>(intro x _;go_simp;rw[if_pos (by omega)]));simp only[Yaa];refine Yab (v:=?v6) (by kernel_rfl) ?m ?_;(case m=>(intro x _;go_simp;rw[if_pos (by omega)]));simp only[Yaa];refine Yar fun x2 hx2=>?_;have k0:=(hx2.block B (by omega)).trans HH.out;have k1:=(hx2.block (B+1) (by omega)).trans HI.out;have kb:=HB2.out.trans (hx2.mono (by omega))
     have kz:B+2≤x2.heap.size:=Nat.le_trans hz hx2.size;have c1:=Ybt k1 b1;have ff:=Yec (i:=8*u+x) k1;generalize Ybo wt (8*u+x) (8*u+x)=y2 at c1;rw[show 8*u+x=u*8+x by omega] at c1 ff
     have PUT:=Lib.hid (fun(w2:World) (e:x2.setCell ⟨B+1,u*8+x,none⟩ (.int .i64 y)=w2)=>(by subst e;rw[show u*8+x=8*u+x by omega];exact⟨Yat k0 (by simp),by rw[S.out];exact Yhy y k1,kb.setCell (p:=⟨B+1,8*u+x,none⟩) (by simp) _,by simp[World.setCell];omega⟩:w2.heap[B]? =some (.cells Y 130 (0,0))∧w2.heap[B+1]? =some (Yc4 130 64 (Ybo wt (8*u+(x+1))))∧Below B w w2∧B+2≤w2.heap.size))
     clear k0 k1 kb hx2 HH HI HB2 C1 S
     go_wp2
     generalize hw2:x2.setCell _ _=w2;have F:=PUT.out w2 hw2;clear hw2 PUT c1 ff
     go_roundw
     case rel=>exact⟨x+1,by omega,by go_num,F⟩
     case measure=>simp[intOf];omega
    ·obtain rfl:x=8:=by omega
     have t1:decide ((8:Int)<8)=false:=by simp
     have h1':wr.heap[B+1]? =some (Yc4 130 64 (Ybo wt (8*(u+1)+0))):=h1;clear h1
     go_wp2
     go_roundw
     case rel=>exact⟨u+1,by omega,by go_num,h0,h1',hb,hz⟩
     case measure=>simp[intOf];omega
  ·obtain rfl:u=8:=by omega
   have t0:decide ((8:Int)<8)=false:=by simp
   obtain⟨V,hV⟩:∃V,arn 64 (Ybo wt 64)=V:=⟨_,rfl⟩;have HV:=Lib.hid hV;have h1':wr.heap[B+1]? =some (.cells V 130 (0,0)):=by rw[←hV];exact h1
   have HSV:(Tryz.prog.info? 130).map (·.size)=some V.size:=by rw[←hV];exact Ysl _
   have HOV:V.all (·.oneCell')=true:=by rw[←hV];exact Ybd _ _
   have HYV:Y.size=V.size:=by rw[←hV,HSY,Yan]
   clear hV h1
   go_wp2_with (first|(with_reducible refine wpList_load_row rfl 130 _ rfl (B+1) rfl 130 V (0,0) _ h1' Tryz.underlying130 rfl HSV ?_)|(with_reducible refine Yae rfl 130 _ _ rfl B V Y rfl rfl 130 h0 HSV HYV HOV ?_;intro w2 hh2 hg2))
   refine bodyPost_ret (results_cell_row rfl _ _ B 130 _ (0,0) _ rfl hh2 Tryz.underlying130 rfl HSV) rfl ?_;exact Ye5 (Yc0 64 wt) HV.out (by rw[HB.out];exact hb.grown hg2 (by omega) (fun k hk=>by injection hk with hk;omega))
def Ykl (f g:Nat→Int)(Y:Array Value)(B Q R:Nat)(w wr:World):Prop:=wr.heap[B]? =some (Ycv f)∧wr.heap[B+1]? =some (.cells Y 60 (0,0))∧wr.heap[Q]? =some (Yc4 130 64 wt)∧wr.heap[R]? =some (Ycv g)∧Below B w wr∧R+1≤wr.heap.size
theorem Ykl.below {f g:Nat→Int}{Y:Array Value}{B Q R:Nat}{w wr x:World}(h:Ykl f g Y B Q R w wr)(hq:Q<R)(hb:B+2≤Q)(hx:Below wr.heap.size wr x):Ykl f g Y B Q R w x:=by
 obtain⟨h0,h1,h2,h3,h4,h5⟩:=h;exact⟨(hx.block B (by omega)).trans h0,(hx.block (B+1) (by omega)).trans h1,(hx.block Q (by omega)).trans h2,(hx.block R (by omega)).trans h3,h4.trans (hx.mono (by omega)),Nat.le_trans h5 hx.size⟩
theorem Ykl.put {f g:Nat→Int}{Y:Array Value}{B Q R:Nat}{w wr x:World}(p:Nat)(y:Int)(h:Ykl f g Y B Q R w wr)(hq:Q<R)(hb:B+2≤Q)(e:wr.setCell ⟨R,p,none⟩ (.int .i64 y)=x):Ykl f (Ycr g p y) Y B Q R w x:=by
 subst e;obtain⟨h0,h1,h2,h3,h4,h5⟩:=h;exact⟨Yat h0 (by simp;omega),Yat h1 (by simp;omega),Yat h2 (by simp;omega),Ydp y h3,h4.setCell (p:=⟨R,p,none⟩) (by simp;omega) _,by simpa [World.setCell] using h5⟩
theorem Ytw (k:Nat→Nat→Int)(f:Nat→Int)(p n:Nat)(h:f n=0):Yd4 k (Yb2 f) p n=0:=by
 unfold Yd4 Yb2;rw[h];exact Int.mul_zero _
theorem Yr6 {k:Nat→Nat→Int}{b:Nat→Int}(hk:InK k)(hb:InB 2048 b)(p n:Nat)(hp:p<64)(hn:n<64):-16222208≤Yd4 k b p n∧Yd4 k b p n≤16222208:=by
 have h1:=hk (p%8) (n%8) (by omega) (by omega);have h2:=hk (p / 8) (n / 8) (by omega) (by omega);have h3:=Ye8 h1.1 h1.2 h2.1 h2.2;have h4:=hb n hn;exact Ye8 (by omega:-7921≤k (p%8) (n%8)*k (p / 8) (n / 8)) (by omega) h4.1 h4.2
theorem Yxg {k:Nat→Nat→Int}{b:Nat→Int}(hk:InK k)(hb:InB 2048 b)(p:Nat)(hp:p<64)(n:Nat)(hn:n≤64):-1038221312≤Ydd n (Yd4 k b p)∧Ydd n (Yd4 k b p)≤1038221312:=by
 have h:=Ykb (M:=16222208) n fun i hi=>Yr6 hk hb p i hp (by omega);omega
theorem Y3r (p u:Nat)(h:p%8=u):(p:Int).tmod 8=(u:Int)∧(p:Int)%8=(u:Int):=by
 rw[Int.tmod_eq_emod_of_nonneg (by omega)];omega
theorem Y3o (p v:Nat)(h:p / 8=v):(p:Int).tdiv 8=(v:Int)∧(p:Int) / 8=(v:Int):=by
 rw[Int.tdiv_eq_ediv_of_nonneg (by omega)];omega
set_option maxRecDepth 100000 in
set_option maxHeartbeats 2000000 in
theorem Yzv (f:Nat→Int)(w:World):Calls Tryz.prog 67 #[.agg (Ybb f)] w (Yb8 64 (Yi0 f) w):=by
 obtain⟨X,hX⟩:∃X,Ybb f=X:=⟨_,rfl⟩;obtain⟨Y,hY⟩:∃Y,arn 64 (fun _=>0)=Y:=⟨_,rfl⟩;have hza:∀w,(zeroValue 60).run Tryz.prog w=.ok (.agg Y) w:=by rw[←hY];exact Ybx
 have hzs:∀w,(zeroValue 130).run Tryz.prog w=.ok (.agg Y) w:=by rw[←hY];exact Yyp
 have HSY:Y.size=64:=by rw[←hY];exact Yan _ _
 obtain⟨B,wA,wB,hB,hwA,hwB,hzA,hzB,hC0,hC1,hbC⟩:=Yej w (.cells X 60 (0,0)) (.cells Y 60 (0,0));have hC0:wB.heap[B]? =some (Ycv f):=by rw[hC0,←hX];rfl
 have HSV:(Tryz.prog.info? 130).map (·.size)=some (arn 64 wt).size:=Ysl _;have HOV:=Ybd 64 wt;have HYV:Y.size=(arn 64 wt).size:=by rw[HSY,Yan]
 have C0:=Lib.hid (fun x=>Ypp x);unfold Yb8 at C0;rw[hX];generalize hV:arn 64 wt=V at C0 HSV HOV HYV;have HV:=Lib.hid hV;have HY:=Lib.hid hY;have HWA:=Lib.hid hwA;have HWB:=Lib.hid hwB;have HB:=Lib.hid hB;clear hX hY hwA hwB hB hV
 go_enter Tryz.func67,Tryz.ntmps67
 go_wp2_with fail
 rw[HWA.out,HB.out,HWB.out];refine(C0.out _).mono ?_;rintro e w1 ⟨rfl,hb1⟩;obtain⟨Q,w2,w3,hQ,hw2,hw3,hz2,hz3,k2,k3,hb3⟩:=Yej w1 (.cells V 130 (0,0)) (.cells Y 60 (0,0));have hQB:B+2≤Q:=by have:=hb1.size;omega
 have hR:Ykl f (Ybo (Yi0 f) 0) Y B Q (Q+1) w w3:=by
  refine⟨?_,?_,?_,?_,(hbC.trans (hb1.mono (by omega))).trans (hb3.mono (by omega)),by omega⟩
  ·exact(hb3.block B (by omega)).trans ((hb1.block B (by omega)).trans hC0)
  ·exact(hb3.block (B+1) (by omega)).trans ((hb1.block (B+1) (by omega)).trans hC1)
  ·rw[k2,←HV.out];rfl
  ·rw[k3,←HY.out];rfl
 have HQ:=Lib.hid hQ;have HW2:=Lib.hid hw2;have HW3:=Lib.hid hw3;have HR:=Lib.hid hR;have HZ2:=Lib.hid hz2;clear hb1 hQ hw2 hw3 hz2 hz3 k2 k3 hb3 hR hC0 hC1 hbC hzA hzB C0
 go_wp2_with (with_reducible refine Yai rfl 130 _ _ rfl V Y 130 rfl rfl HSV HYV HOV ?_;rw[HW2.out])
 rw[HQ.out,HW3.out,HZ2.out];clear hza hzs HSV HOV HYV
 go_loopw [5] (fun z wr=>∃p:Nat,p≤64∧z=.int .i64 p∧Hid (Ykl f (Ybo (Yi0 f) p) Y B Q (Q+1) w wr)) (fun z _=>64-(intOf z).toNat)
 case atStart=>exact⟨0,by omega,rfl,HR⟩
 case round=>
  clear HR;obtain⟨p,hp64,rfl,hR⟩:=hrel;by_cases hlt:p<64
  ·have t0:decide ((p:Int)<64)=true:=by simp;omega
   go_wp2
   go_loopw [6,7] (fun t z wr=>∃n:Nat,n≤64∧z=.int .i64 n∧t=.int .i64 (Ydd n (Yd4 kI (Yb2 f) p))∧Hid (Ykl f (Ybo (Yi0 f) p) Y B Q (Q+1) w wr)) (fun _ z _=>64-(intOf z).toNat)
   case atStart=>exact⟨0,by omega,rfl,rfl,hR⟩
   case round=>
    clear hR;obtain⟨n,hn64,rfl,rfl,hR⟩:=hrel;by_cases hln:n<64
    ·have t1:decide ((n:Int)<64)=true:=by simp;omega
     by_cases hz:f n=0
     ·have S:Ydd (n+1) (Yd4 kI (Yb2 f) p)=Ydd n (Yd4 kI (Yb2 f) p):=by
       show Ydd n (Yd4 kI (Yb2 f) p)+Yd4 kI (Yb2 f) p n=_;rw[Ytw kI f p n hz,Int.add_zero]
      have HS:=Lib.hid S;have c0:=Ybj hR.out.1 hln;rw[hz] at c0;clear S hz;generalize Ydd n (Yd4 kI (Yb2 f) p)=s at HS ⊢
      go_wp2
      go_roundw
      case rel=>exact⟨n+1,by omega,by go_num,by rw[HS.out],hR⟩
      case measure=>simp[intOf];omega
     ·have c0:=Ybj hR.out.1 hln;obtain⟨x,hx⟩:∃x,n%8=x:=⟨_,rfl⟩;obtain⟨y,hy⟩:∃y,n / 8=y:=⟨_,rfl⟩;obtain⟨u,hu⟩:∃u,p%8=u:=⟨_,rfl⟩;obtain⟨v,hv⟩:∃v,p / 8=v:=⟨_,rfl⟩;obtain⟨r1,r2⟩:=Y3r n x hx;obtain⟨r3,r4⟩:=Y3o n y hy;obtain⟨r5,r6⟩:=Y3r p u hu;obtain⟨r7,r8⟩:=Y3o p v hv;have r9:IntKind.i64.wrap (v:Int)=(v:Int):=IntWalk.i64_in _ (by omega)
      have r10:IntKind.i64.wrap (y:Int)=(y:Int):=IntWalk.i64_in _ (by omega);have b1:x<8:=by omega
      have b2:y<8:=by omega
      have b3:u<8:=by omega
      have b4:v<8:=by omega
      have m1:=Yxg Ywq (Yiv f) p hlt n (by omega);have m2:=Yr6 Ywq (Yiv f) p n hlt hln;have S:Ydd (n+1) (Yd4 kI (Yb2 f) p)=Ydd n (Yd4 kI (Yb2 f) p)+wt (x*8+u)*wt (y*8+v)*Yax (f n) (-2048) 2047:=by
       show Ydd n (Yd4 kI (Yb2 f) p)+kI (p%8) (n%8)*kI (p / 8) (n / 8)*Yax (f n) (-2048) 2047=_;rw[hx,hy,hu,hv];unfold kI;rw[Nat.mul_comm 8 x,Nat.mul_comm 8 y]
      have e2:Yd4 kI (Yb2 f) p n=wt (x*8+u)*wt (y*8+v)*Yax (f n) (-2048) 2047:=by
       show kI (p%8) (n%8)*kI (p / 8) (n / 8)*Yax (f n) (-2048) 2047=_;rw[hx,hy,hu,hv];unfold kI;rw[Nat.mul_comm 8 x,Nat.mul_comm 8 y]
      rw[e2] at m2;have i1:=Y26 (x*8+u) (by omega);have i2:=Y26 (y*8+v) (by omega);have i3:=Ye8 i1.1 i1.2 i2.1 i2.2;have HK:=Lib.hid (fun(x2:World) (hx2:Below wr.heap.size wr x2)=>hR.out.below (by omega) hQB hx2);have K1:=Lib.hid (fun(x2:World) (hx2:Below wr.heap.size wr x2)=>Ybt (HK.out x2 hx2).2.2.1 (show x*8+u<64 by omega))
      have K2:=Lib.hid (fun(x2:World) (hx2:Below wr.heap.size wr x2)=>Ybt (HK.out x2 hx2).2.2.1 (show y*8+v<64 by omega));have K3:=Lib.hid (fun(x2:World) (hx2:Below wr.heap.size wr x2)=>Ybj (HK.out x2 hx2).1 hln)
      have C1:=Lib.hid (fun(x2:World) (hx2:Below wr.heap.size wr x2)=>((Ybm (f n) (-2048) 2047 x2).mono fun e y h=>⟨h.1,h.2▸hx2⟩:Calls Tryz.prog 40 #[.int .i64 (f n),.int .i64 (-2048),.int .i64 2047] x2 fun e y=>e=.returned (.int .i64 (Yax (f n) (-2048) 2047))∧Below wr.heap.size wr y));have tz:((f n)==0)=false:=by simpa using hz
      have HS:=Lib.hid S;clear S e2 hx hy hu hv hz hR;generalize Ydd n (Yd4 kI (Yb2 f) p)=s at HS m1 ⊢;generalize Yax (f n) (-2048) 2047=z4 at HS m2 C1;generalize f n=z3 at c0 tz K3 C1;generalize wt (x*8+u)=z1 at HS m2 i1 i3 K1;generalize wt (y*8+v)=z2 at HS m2 i2 i3 K2;obtain⟨z5,hz5⟩:∃z5,z1*z2=z5:=⟨_,rfl⟩;rw[hz5] at HS m2 i3;obtain⟨z6,hz6⟩:∃z6,z5*z4=z6:=⟨_,rfl⟩;rw[hz6] at HS m2
      obtain⟨z7,hz7⟩:∃z7,s+z6=z7:=⟨_,rfl⟩;rw[hz7] at HS;have q1:IntKind.i64.wrap (z1*z2)=z5:=by rw[hz5];exact IntWalk.i64_in z5 (by omega)
      have q2:IntKind.i64.wrap (z5*z4)=z6:=by rw[hz6];exact IntWalk.i64_in z6 (by omega)
      have q3:IntKind.i64.wrap (s+z6)=z7:=by rw[hz7];exact IntWalk.i64_in z7 (by omega)
      clear hz5 hz6 hz7 m1 m2 i1 i2 i3
      go_wp2
      refine Yaf (S:=fun x=>Below wr.heap.size wr x) 23 (by kernel_rfl) (by kernel_rfl) (Below.refl _ _).drew ?_;simp only[List.take_succ_cons,List.take_zero,List.drop_succ_cons,List.drop_zero];refine Yab (v:=?va0) (by kernel_rfl) ?m ?_;(case m=>(intro x _;go_simp;try with_reducible rfl));simp only[Yaa];refine Yab (v:=?va1) (by kernel_rfl) ?m ?_;(case m=>(intro x _;go_simp;try with_reducible rfl))
      simp only[Yaa];refine Yab (v:=?va2) (by kernel_rfl) ?m ?_;(case m=>(intro x _;go_simp;try with_reducible rfl));simp only[Yaa];refine Yab (v:=?va3) (by kernel_rfl) ?m ?_;(case m=>(intro x _;go_simp;try with_reducible rfl));simp only[Yaa];refine Yab (v:=?va4) (by kernel_rfl) ?m ?_;(case m=>(intro x _;go_simp;try with_reducible rfl));simp only[Yaa]
      refine Yab (v:=?va5) (by kernel_rfl) ?m ?_;(case m=>(intro x _;go_simp;rw[if_pos (by omega)]));simp only[Yaa];refine Yab (v:=?va6) (by kernel_rfl) ?m ?_;(case m=>(intro x _;go_simp;rw[if_pos (by omega)]));simp only[Yaa];refine Yag 3 _ ⟨Q,x*8+u,none⟩ (.int .i64 z1) (by kernel_rfl) rfl rfl (fun x hx=>by have c0:=K1.out x hx;go_simp) ?_;simp only[Yaa]
      refine Yab (v:=?va8) (by kernel_rfl) ?m ?_;(case m=>(intro x _;go_simp;try with_reducible rfl));simp only[Yaa];refine Yab (v:=?va9) (by kernel_rfl) ?m ?_;(case m=>(intro x _;go_simp;try with_reducible rfl));simp only[Yaa];refine Yab (v:=?va10) (by kernel_rfl) ?m ?_;(case m=>(intro x _;go_simp;try with_reducible rfl));simp only[Yaa]
      refine Yab (v:=?va11) (by kernel_rfl) ?m ?_;(case m=>(intro x _;go_simp;try with_reducible rfl));simp only[Yaa];refine Yab (v:=?va12) (by kernel_rfl) ?m ?_;(case m=>(intro x _;go_simp;rw[if_pos (by omega)]));simp only[Yaa];refine Yab (v:=?va13) (by kernel_rfl) ?m ?_;(case m=>(intro x _;go_simp;rw[if_pos (by omega)]));simp only[Yaa]
      refine Yag 3 _ ⟨Q,y*8+v,none⟩ (.int .i64 z2) (by kernel_rfl) rfl rfl (fun x hx=>by have c0:=K2.out x hx;go_simp) ?_;simp only[Yaa];refine Yab (v:=?va15) (by kernel_rfl) ?m ?_;(case m=>(intro x _;go_simp;try with_reducible rfl));simp only[Yaa];refine Yab (v:=?va16) (by kernel_rfl) ?m ?_;(case m=>(intro x _;go_simp;try with_reducible rfl));simp only[Yaa]
      refine Yab (v:=?va17) (by kernel_rfl) ?m ?_;(case m=>(intro x _;go_simp;rw[if_pos (by omega)]));simp only[Yaa];refine Yag 3 _ ⟨B,n,none⟩ (.int .i64 z3) (by kernel_rfl) rfl rfl (fun x hx=>by have c0:=K3.out x hx;go_simp) ?_;simp only[Yaa];refine Yah (by kernel_rfl) C1.out (fun _=>by kernel_rfl) ?_;simp only[Yaa]
      refine Yab (v:=?va20) (by kernel_rfl) ?m ?_;(case m=>(intro x _;go_simp;try with_reducible rfl));simp only[Yaa];refine Yab (v:=?va21) (by kernel_rfl) ?m ?_;(case m=>(intro x _;go_simp;try with_reducible rfl));simp only[Yaa];refine Yab (v:=?va22) (by kernel_rfl) ?m ?_;(case m=>(intro x _;go_simp;try with_reducible rfl));simp only[Yaa];refine Yar fun x2 hx2=>?_
      have hR2:=Lib.hid (HK.out x2 hx2);clear hx2 HK K1 K2 K3 C1 c0 r1 r2 r3 r4 r5 r6 r7 r8 r9 r10 q1 q2 q3
      go_wp2
      go_roundw
      case rel=>exact⟨n+1,by omega,by go_num,by rw[HS.out],hR2⟩
      case measure=>simp[intOf];omega
    ·obtain rfl:n=64:=by omega
     have t1:decide ((64:Int)<64)=false:=by simp
     have S:=Lib.hid (show Ybo (Yi0 f) (p+1)=Ycr (Ybo (Yi0 f) p) p (Yi0 f p) from rfl);have e1:Yi0 f p=Yax (round (Ydd 64 (Yd4 kI (Yb2 f) p)) 15) (-256) 255:=by
      show Yax (round (Ydv kI (Ydv kI (Yb2 f)) p) 15) (-256) 255=_;rw[Yuz]
     rw[e1] at S;have cr:=fun w=>Yt9 (Ydd 64 (Yd4 kI (Yb2 f) p)) 15 w;have cv:=fun w=>Ybm (round (Ydd 64 (Yd4 kI (Yb2 f) p)) 15) (-256) 255 w;generalize Yax (round (Ydd 64 (Yd4 kI (Yb2 f) p)) 15) (-256) 255=y at cv S;generalize round (Ydd 64 (Yd4 kI (Yb2 f) p)) 15=y1 at cv cr;generalize Ydd 64 (Yd4 kI (Yb2 f) p)=y3 at cr ⊢;have c2:=Ybj hR.out.2.2.2.1 hlt;have ff:=Ycs (i:=p) hR.out.2.2.2.1
     generalize Ybo (Yi0 f) p p=y2 at c2;have PUT:=Lib.hid (fun(w2:World) (e:wr.setCell ⟨Q+1,p,none⟩ (.int .i64 y)=w2)=>(by rw[S.out];exact hR.out.put p y (by omega) hQB e:Ykl f (Ybo (Yi0 f) (p+1)) Y B Q (Q+1) w w2));clear e1 hR S
     go_wp2_with (first|(with_reducible refine(cr _).mono ?_;rintro e w4 ⟨rfl,rfl⟩)|(with_reducible refine(cv _).mono ?_;rintro e w4 ⟨rfl,rfl⟩))
     generalize hw2:wr.setCell _ _=w2;have F:=Lib.hid (PUT.out w2 hw2);clear hw2 PUT c2 ff cr cv
     go_roundw
     case rel=>exact⟨p+1,by omega,by go_num,F⟩
     case measure=>simp[intOf];omega
  ·obtain rfl:p=64:=by omega
   have t0:decide ((64:Int)<64)=false:=by simp
   obtain⟨V2,hV2⟩:∃V2,arn 64 (Ybo (Yi0 f) 64)=V2:=⟨_,rfl⟩;have HV2:=Lib.hid hV2;obtain⟨h0,h1,h2,h3,hb,hz⟩:=hR.out;have h3':wr.heap[Q+1]? =some (.cells V2 60 (0,0)):=by rw[←hV2];exact h3
   have HSV:(Tryz.prog.info? 60).map (·.size)=some V2.size:=by rw[←hV2];exact Yau _
   have HOV:V2.all (·.oneCell')=true:=by rw[←hV2];exact Ybd _ _
   have HYV:Y.size=V2.size:=by rw[←hV2,HSY,Yan]
   clear hV2 h3 h2 h0 hR
   go_wp2_with (first|(with_reducible refine wpList_load_row rfl 60 _ rfl (Q+1) rfl 60 V2 (0,0) _ h3' Tryz.underlying60 rfl HSV ?_)|(with_reducible refine Yae rfl 60 _ _ rfl (B+1) V2 Y rfl rfl 60 h1 HSV HYV HOV ?_;intro w2 hh2 hg2))
   refine bodyPost_ret (results_cell_row rfl _ _ (B+1) 60 _ (0,0) _ rfl hh2 Tryz.underlying60 rfl HSV) rfl ?_;exact Ye5 (Yc0 64 (Yi0 f)) HV2.out (by rw[HB.out];exact hb.grown hg2 (by omega) (fun k hk=>by injection hk with hk;omega))
end Go.Proofs.YtnamlooifcpoaaaGreatDoor