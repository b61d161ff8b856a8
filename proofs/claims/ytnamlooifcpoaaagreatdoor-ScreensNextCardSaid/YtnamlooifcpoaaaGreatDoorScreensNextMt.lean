/- No condition. -/
import Derived.Test.YtnamlooifcpoaaaGreatDoorScreensNextMf
import Derived.Test.YtnamlooifcpoaaaGreatDoorScreensNextMo
import Derived.Test.YtnamlooifcpoaaaGreatDoorScreensNextMs
import Derived.WalkMore
namespace Go.Proofs.YtnamlooifcpoaaaGreatDoor
open Go.RowKit Go.Lib
def Ysp (f:Nat→Int)(q:Int)(intra:Bool)(dc:Int)(i:Nat):Int:=if i=0∧intra=true then dcV dc else Yq5 (f i) q
def Ysq (f:Nat→Int)(q:Int):Nat→(Nat→Int)
 |0=>fun _=>0
 |k+1=>Ycr (Ysq f q k) k (Yq5 (f k) q)
theorem Yq4 (f:Nat→Int)(q:Int):∀k p,Ysq f q k p=if p<k then Yq5 (f p) q else 0
 |0,p=>rfl
 |k+1,p=>by
  unfold Ysq Ycr;by_cases e:p=k
  ·subst e;rw[if_pos rfl,if_pos (by omega)]
  ·rw[if_neg e,Yq4 f q k p];by_cases hlt:p<k
   ·rw[if_pos hlt,if_pos (by omega)]
   ·rw[if_neg hlt,if_neg (by omega)]
theorem Yu1 (f:Nat→Int)(q dc:Int):∀p,p<64→Ysq f q 64 p=Ysp f q false dc p:=by
 intro p hp;rw[Yq4,if_pos hp];unfold Ysp;rw[if_neg (by simp)]
theorem Yu0 (f:Nat→Int)(q dc:Int):∀p,p<64→Ycr (Ysq f q 64) 0 (dcV dc) p=Ysp f q true dc p:=by
 intro p hp;unfold Ycr Ysp;by_cases e:p=0
 ·rw[if_pos e,if_pos ⟨e,rfl⟩]
 ·rw[if_neg e,if_neg (by simp[e]),Yq4,if_pos hp]
def Ykr (f:Nat→Int)(q:Int)(intra:Bool)(dc:Int):Nat→(Nat→Int)
 |0=>fun _=>0
 |k+1=>Ycr (Ykr f q intra dc k) k (Ysp f q intra dc k)
theorem Yxf (f:Nat→Int)(q:Int)(intra:Bool)(dc:Int):∀k p,Ykr f q intra dc k p=if p<k then Ysp f q intra dc p else 0
 |0,p=>rfl
 |k+1,p=>by
  unfold Ykr Ycr;by_cases e:p=k
  ·subst e;rw[if_pos rfl,if_pos (by omega)]
  ·rw[if_neg e,Yxf f q intra dc k p];by_cases hlt:p<k
   ·rw[if_pos hlt,if_pos (by omega)]
   ·rw[if_neg hlt,if_neg (by omega)]
theorem Y0b (f:Nat→Int)(q:Int)(intra:Bool)(dc:Int):∀p,p<64→Ykr f q intra dc 64 p=Ysp f q intra dc p:=by
 intro p hp;rw[Yxf,if_pos hp]
set_option maxRecDepth 100000 in
set_option maxHeartbeats 2000000 in
theorem Yy3 (f:Nat→Int)(q:Int)(intra:Bool)(dc:Int)(w:World):Calls Tryz.prog 126 #[.agg (Ybb f),.int .i64 q,.bool intra,.int .i64 dc] w (Ybq (Ysp f q intra dc) w):=by
 obtain⟨B,hB⟩:∃B,w.heap.size=B:=⟨_,rfl⟩;obtain⟨X,hX⟩:∃X,Ybb f=X:=⟨_,rfl⟩;obtain⟨Y,hY⟩:∃Y,Ybb (fun _=>0)=Y:=⟨_,rfl⟩;have hidx:=fun(w:World) (i:Nat) (h:i<64)=>Yjh f h w;have hz0:∀w,(zeroValue 60).run Tryz.prog w=.ok (.agg Y) w:=by rw[←hY];exact Ybx
 have HSY:Y.size=64:=by rw[←hY];exact Yak _
 have HSX:(Tryz.prog.info? 60).map (·.size)=some X.size:=by rw[←hX];exact Yau _
 obtain⟨wA,hwA⟩:∃wA,w.alloc (.cells X 60 (0,0))=wA:=⟨_,rfl⟩;obtain⟨wB,hwB⟩:∃wB,wA.alloc (.cells Y 60 (0,0))=wB:=⟨_,rfl⟩;obtain⟨wC,hwC⟩:∃wC,wB.alloc (.cells Y 60 (0,0))=wC:=⟨_,rfl⟩;have hzA:wA.heap.size=B+1:=by rw[←hwA,←hB];simp
 have hzB:wB.heap.size=B+2:=by rw[←hwB];simp;omega
 have hzC:wC.heap.size=B+3:=by rw[←hwC];simp;omega
 have hA0:wA.heap[B]? =some (.cells X 60 (0,0)):=by rw[←hwA,←hB];exact heap_alloc_new w _
 have hB0:wB.heap[B]? =some (.cells X 60 (0,0)):=by rw[←hwB];exact Yap hA0
 have hB1:wB.heap[B+1]? =some (.cells Y 60 (0,0)):=by rw[←hwB,←hzA];exact heap_alloc_new wA _
 have hC0:wC.heap[B]? =some (.cells X 60 (0,0)):=by rw[←hwC];exact Yap hB0
 have hC1:wC.heap[B+1]? =some (.cells Y 60 (0,0)):=by rw[←hwC];exact Yap hB1
 have hC2:wC.heap[B+2]? =some (Ycv (Ysq f q 0)):=by
  rw[←hwC,←hzB];refine(heap_alloc_new wB _).trans ?_;rw[←hY]
  rfl
 have hbC:Below B w wC:=by
  rw[←hwC,←hwB,←hwA,←hB];exact(((Below.refl _ w).alloc (Nat.le_refl _) _).alloc (by simp) _).alloc (by simp;omega) _
 rw[hX];rw[hX] at hidx;have HIX:=Lib.hid hidx;have HY:=Lib.hid hY;have HWA:=Lib.hid hwA;have HWB:=Lib.hid hwB;have HWC:=Lib.hid hwC;have HB:=Lib.hid hB;clear hX hY hidx hA0 hB0 hB1 hwA hwB hwC hB
 go_enter Tryz.func126,Tryz.ntmps126
 go_wp2_with (rw[HWA.out,HB.out,HWB.out,HWC.out];with_reducible refine wpList_load_row rfl 60 _ rfl B rfl 60 X (0,0) _ hC0 Tryz.underlying60 rfl HSX ?_)
 go_loopw [13] (fun z wr=>∃i:Nat,i≤64∧z=.int .i64 i∧wr.heap[B+1]? =some (.cells Y 60 (0,0))∧wr.heap[B+2]? =some (Ycv (Ysq f q i))∧Below B w wr∧B+3≤wr.heap.size) (fun z _=>64-(intOf z).toNat)
 case atStart=>exact⟨0,by omega,rfl,hC1,hC2,hbC,by omega⟩
 case round=>
  clear hC0 hC1 hC2 hbC hzA hzB hzC;obtain⟨i,hi64,rfl,h1,h2,hb,hz⟩:=hrel;by_cases hlt:i<64
  ·have hix:=fun w=>HIX.out w i hlt;have t0:decide ((i:Int)<64)=true:=by simp;omega
   have S:=Lib.hid (show Ysq f q (i+1)=Ycr (Ysq f q i) i (Yq5 (f i) q) from rfl);have cv:=fun w=>Y09 (f i) q w;generalize Yq5 (f i) q=y at cv S;generalize f i=x at cv hix;have c2:=Ybj h2 hlt;have ff:=Ycs (i:=i) h2;generalize Ysq f q i i=y2 at c2
   have PUT:=Lib.hid (⟨Yat h1 (by simp),by rw[S.out];exact Ydp y h2,hb.setCell (by simp) _,by simp[World.setCell];omega⟩:(wr.setCell ⟨B+2,i,none⟩ (.int .i64 y)).heap[B+1]? =some (.cells Y 60 (0,0))∧(wr.setCell ⟨B+2,i,none⟩ (.int .i64 y)).heap[B+2]? =some (Ycv (Ysq f q (i+1)))∧Below B w (wr.setCell ⟨B+2,i,none⟩ (.int .i64 y))∧B+3≤(wr.setCell ⟨B+2,i,none⟩ (.int .i64 y)).heap.size);clear h1 h2 hb
   go_wp2_with (with_reducible refine(cv _).mono ?_;rintro e w1 ⟨rfl,rfl⟩)
   go_roundw
   case rel=>exact⟨i+1,by omega,by go_num,PUT.out⟩
   case measure=>simp[intOf] <;> omega
  ·obtain rfl:i=64:=by omega
   have t0:decide ((64:Int)<64)=false:=by simp
   cases intra with
   |false=>
    obtain⟨V,hV⟩:∃V,Ybb (Ysq f q 64)=V:=⟨_,rfl⟩;have HV:=Lib.hid hV;have h2':wr.heap[B+2]? =some (.cells V 60 (0,0)):=by rw[←hV];exact h2
    have HSV:(Tryz.prog.info? 60).map (·.size)=some V.size:=by rw[←hV];exact Yau _
    have HOV:V.all (·.oneCell')=true:=by rw[←hV];exact Ya9 _
    have HYV:Y.size=V.size:=by rw[←hV,HSY,Yak]
    clear hV h2
    go_wp2_with (first|(with_reducible refine wpList_load_row rfl 60 _ rfl (B+2) rfl 60 V (0,0) _ h2' Tryz.underlying60 rfl HSV ?_)|(with_reducible refine Yae rfl 60 _ _ rfl (B+1) V Y rfl rfl 60 h1 HSV HYV HOV ?_;intro w2 hh2 hg2))
    refine bodyPost_ret (results_cell_row rfl _ _ (B+1) 60 _ (0,0) _ rfl hh2 Tryz.underlying60 rfl HSV) rfl ?_;exact Yhf (Yu1 f q dc) HV.out (by rw[HB.out];exact hb.grown hg2 (by omega) (fun k hk=>by injection hk with hk;omega))
   |true=>
    have cd:=fun w=>Y12 dc w;obtain⟨V,hV⟩:∃V,Ybb (Ycr (Ysq f q 64) 0 (dcV dc))=V:=⟨_,rfl⟩;have HV:=Lib.hid hV;have HSV:(Tryz.prog.info? 60).map (·.size)=some V.size:=by rw[←hV];exact Yau _
    have HOV:V.all (·.oneCell')=true:=by rw[←hV];exact Ya9 _
    have HYV:Y.size=V.size:=by rw[←hV,HSY,Yak]
    have c2:=Ybj h2 (show 0<64 by omega);have ff:=Ycs (i:=0) h2;generalize dcV dc=y at cd hV;have PUT:=Lib.hid (⟨Yat h1 (by simp),by rw[←hV];exact Ydp y h2,hb.setCell (by simp) _⟩:(wr.setCell ⟨B+2,0,none⟩ (.int .i64 y)).heap[B+1]? =some (.cells Y 60 (0,0))∧(wr.setCell ⟨B+2,0,none⟩ (.int .i64 y)).heap[B+2]? =some (.cells V 60 (0,0))∧Below B w (wr.setCell ⟨B+2,0,none⟩ (.int .i64 y)))
    generalize Ysq f q 64 0=y2 at c2;obtain⟨wD,hwD⟩:∃wD,wr.setCell ⟨B+2,0,none⟩ (.int .i64 y)=wD:=⟨_,rfl⟩;have hzD:wD.heap.size=wr.heap.size:=by rw[←hwD];simp[World.setCell]
    rw[hwD] at PUT;obtain⟨k1,k2,k3⟩:=PUT.out;have HWD:=Lib.hid hwD;clear hV h2 h1 hwD PUT
    go_wp2_with (first|(with_reducible refine(cd _).mono ?_;rintro e w1 ⟨rfl,rfl⟩)|(rw[HWD.out];with_reducible refine wpList_load_row rfl 60 _ rfl (B+2) rfl 60 V (0,0) _ k2 Tryz.underlying60 rfl HSV ?_)|(with_reducible refine Yae rfl 60 _ _ rfl (B+1) V Y rfl rfl 60 k1 HSV HYV HOV ?_;intro w2 hh2 hg2))
    refine bodyPost_ret (results_cell_row rfl _ _ (B+1) 60 _ (0,0) _ rfl hh2 Tryz.underlying60 rfl HSV) rfl ?_;exact Yhf (Yu0 f q dc) HV.out (by rw[HB.out];exact k3.grown hg2 (by omega) (fun k hk=>by injection hk with hk;omega))
set_option maxRecDepth 100000 in
set_option maxHeartbeats 2000000 in
theorem Yy4 (f:Nat→Int)(q:Int)(intra:Bool)(dc:Int)(w:World):Calls Tryz.prog 87 #[.agg (Ybb f),.int .i64 q,.bool intra,.int .i64 dc] w (Ybq (Ysp f q intra dc) w):=by
 obtain⟨B,hB⟩:∃B,w.heap.size=B:=⟨_,rfl⟩;obtain⟨X,hX⟩:∃X,Ybb f=X:=⟨_,rfl⟩;obtain⟨Y,hY⟩:∃Y,Ybb (fun _=>0)=Y:=⟨_,rfl⟩;have hz0:∀w,(zeroValue 60).run Tryz.prog w=.ok (.agg Y) w:=by rw[←hY];exact Ybx
 have HSY:Y.size=64:=by rw[←hY];exact Yak _
 obtain⟨wA,hwA⟩:∃wA,w.alloc (.cells X 60 (0,0))=wA:=⟨_,rfl⟩;obtain⟨wB,hwB⟩:∃wB,wA.alloc (.cells Y 60 (0,0))=wB:=⟨_,rfl⟩;obtain⟨wC,hwC⟩:∃wC,wB.alloc (.cells Y 60 (0,0))=wC:=⟨_,rfl⟩;have hzA:wA.heap.size=B+1:=by rw[←hwA,←hB];simp
 have hzB:wB.heap.size=B+2:=by rw[←hwB];simp;omega
 have hzC:wC.heap.size=B+3:=by rw[←hwC];simp;omega
 have hA0:wA.heap[B]? =some (Ycv f):=by rw[←hwA,←hB,←hX];exact heap_alloc_new w _
 have hB0:wB.heap[B]? =some (Ycv f):=by rw[←hwB];exact Yap hA0
 have hB1:wB.heap[B+1]? =some (.cells Y 60 (0,0)):=by rw[←hwB,←hzA];exact heap_alloc_new wA _
 have hC0:wC.heap[B]? =some (Ycv f):=by rw[←hwC];exact Yap hB0
 have hC1:wC.heap[B+1]? =some (.cells Y 60 (0,0)):=by rw[←hwC];exact Yap hB1
 have hC2:wC.heap[B+2]? =some (Ycv (Ykr f q intra dc 0)):=by
  rw[←hwC,←hzB];refine(heap_alloc_new wB _).trans ?_;rw[←hY]
  rfl
 have hbC:Below B w wC:=by
  rw[←hwC,←hwB,←hwA,←hB];exact(((Below.refl _ w).alloc (Nat.le_refl _) _).alloc (by simp) _).alloc (by simp;omega) _
 rw[hX];have HY:=Lib.hid hY;have HWA:=Lib.hid hwA;have HWB:=Lib.hid hwB;have HWC:=Lib.hid hwC;have HB:=Lib.hid hB;clear hX hY hA0 hB0 hB1 hwA hwB hwC hB
 go_enter Tryz.func87,Tryz.ntmps87
 go_wp2_with fail
 rw[HWA.out,HB.out,HWB.out,HWC.out]
 go_loopw [10] (fun z wr=>∃i:Nat,i≤64∧z=.int .i64 i∧wr.heap[B]? =some (Ycv f)∧wr.heap[B+1]? =some (.cells Y 60 (0,0))∧wr.heap[B+2]? =some (Ycv (Ykr f q intra dc i))∧Below B w wr∧B+3≤wr.heap.size) (fun z _=>64-(intOf z).toNat)
 case atStart=>exact⟨0,by omega,rfl,hC0,hC1,hC2,hbC,by omega⟩
 case round=>
  clear hC0 hC1 hC2 hbC hzA hzB hzC;obtain⟨i,hi64,rfl,h0,h1,h2,hb,hz⟩:=hrel;by_cases hlt:i<64
  ·have t0:decide ((i:Int)<64)=true:=by simp;omega
   by_cases e0:i=0
   ·subst e0;cases intra with
    |false=>
     have S:=Lib.hid (show Ykr f q false dc (0+1)=Ycr (Ykr f q false dc 0) 0 (Yq5 (f 0) q) from rfl);have c0:=Ybj h0 hlt;have cv:=fun w=>Ynd (f 0) q w;generalize Yq5 (f 0) q=y at cv S;generalize f 0=x at cv c0;have c2:=Ybj h2 hlt;have ff:=Ycs (i:=0) h2
     have PUT:=Lib.hid (⟨Yat h0 (by simp),Yat h1 (by simp),by rw[S.out];exact Ydp y h2,hb.setCell (by simp) _,by simp[World.setCell];omega⟩:(wr.setCell ⟨B+2,0,none⟩ (.int .i64 y)).heap[B]? =some (Ycv f)∧(wr.setCell ⟨B+2,0,none⟩ (.int .i64 y)).heap[B+1]? =some (.cells Y 60 (0,0))∧(wr.setCell ⟨B+2,0,none⟩ (.int .i64 y)).heap[B+2]? =some (Ycv (Ykr f q false dc (0+1)))∧Below B w (wr.setCell ⟨B+2,0,none⟩ (.int .i64 y))∧B+3≤(wr.setCell ⟨B+2,0,none⟩ (.int .i64 y)).heap.size)
     generalize Ykr f q false dc 0 0=y2 at c2;clear h0 h1 h2 hb
     go_wp2_with (with_reducible refine(cv _).mono ?_;rintro e w1 ⟨rfl,rfl⟩)
     go_roundw
     case rel=>exact⟨0+1,by omega,by go_num,PUT.out⟩
     case measure=>simp[intOf] <;> omega
    |true=>
     have S:=Lib.hid (show Ykr f q true dc (0+1)=Ycr (Ykr f q true dc 0) 0 (dcV dc) from rfl);have c0:=Ybj h0 hlt;have cv:=fun w=>Ynd (f 0) q w;have cd:=fun w=>Y13 dc w;generalize dcV dc=z at cd S;generalize Yq5 (f 0) q=y at cv;generalize f 0=x at cv c0;have c2:=Ybj h2 hlt;have ff:=Ycs (i:=0) h2
     have hx1:(wr.setCell ⟨B+2,0,none⟩ (.int .i64 y)).heap[B+2]? =some (Ycv (Ycr (Ykr f q true dc 0) 0 y)):=Ydp y h2;have c3:=Ybj hx1 (show 0<64 by omega);have f3:=Ycs (i:=0) hx1;rw[show Ycr (Ykr f q true dc 0) 0 y 0=y from rfl] at c3;have S2:∀g:Nat→Int,Ycr (Ycr g 0 y) 0 z=Ycr g 0 z:=fun g=>funext fun k=>by unfold Ycr;split <;> rfl
     have PUT:=Lib.hid (⟨Yat (Yat h0 (by simp)) (by simp),Yat (Yat h1 (by simp)) (by simp),(by rw[S.out,←S2];exact Ydp z hx1),(hb.setCell (by simp) _).setCell (by simp) _,by simp[World.setCell];omega⟩:((wr.setCell ⟨B+2,0,none⟩ (.int .i64 y)).setCell ⟨B+2,0,none⟩ (.int .i64 z)).heap[B]? =some (Ycv f)∧((wr.setCell ⟨B+2,0,none⟩ (.int .i64 y)).setCell ⟨B+2,0,none⟩ (.int .i64 z)).heap[B+1]? =some (.cells Y 60 (0,0))∧((wr.setCell ⟨B+2,0,none⟩ (.int .i64 y)).setCell ⟨B+2,0,none⟩ (.int .i64 z)).heap[B+2]? =some (Ycv (Ykr f q true dc (0+1)))∧Below B w ((wr.setCell ⟨B+2,0,none⟩ (.int .i64 y)).setCell ⟨B+2,0,none⟩ (.int .i64 z))∧B+3≤((wr.setCell ⟨B+2,0,none⟩ (.int .i64 y)).setCell ⟨B+2,0,none⟩ (.int .i64 z)).heap.size)
     generalize Ykr f q true dc 0 0=y2 at c2;clear hx1;clear h0 h1 h2 hb
     go_wp2_with (first|(with_reducible refine(cv _).mono ?_;rintro e w1 ⟨rfl,rfl⟩)|(with_reducible refine(cd _).mono ?_;rintro e w1 ⟨rfl,rfl⟩))
     go_roundw
     case rel=>exact⟨0+1,by omega,by go_num,PUT.out⟩
     case measure=>simp[intOf] <;> omega
   ·have t1:((i:Int)==0)=false:=by simpa using e0
    have S:=Lib.hid (show Ykr f q intra dc (i+1)=Ycr (Ykr f q intra dc i) i (Yq5 (f i) q) from by rw[show Yq5 (f i) q=Ysp f q intra dc i by unfold Ysp;rw[if_neg (by simp[e0])]];rfl);have c0:=Ybj h0 hlt;have cv:=fun w=>Ynd (f i) q w;generalize Yq5 (f i) q=y at cv S;generalize f i=x at cv c0;have c2:=Ybj h2 hlt;have ff:=Ycs (i:=i) h2
    have PUT:=Lib.hid (⟨Yat h0 (by simp),Yat h1 (by simp),by rw[S.out];exact Ydp y h2,hb.setCell (by simp) _,by simp[World.setCell];omega⟩:(wr.setCell ⟨B+2,i,none⟩ (.int .i64 y)).heap[B]? =some (Ycv f)∧(wr.setCell ⟨B+2,i,none⟩ (.int .i64 y)).heap[B+1]? =some (.cells Y 60 (0,0))∧(wr.setCell ⟨B+2,i,none⟩ (.int .i64 y)).heap[B+2]? =some (Ycv (Ykr f q intra dc (i+1)))∧Below B w (wr.setCell ⟨B+2,i,none⟩ (.int .i64 y))∧B+3≤(wr.setCell ⟨B+2,i,none⟩ (.int .i64 y)).heap.size)
    generalize Ykr f q intra dc i i=y2 at c2;clear h0 h1 h2 hb
    go_wp2_with (with_reducible refine(cv _).mono ?_;rintro e w1 ⟨rfl,rfl⟩)
    go_roundw
    case rel=>exact⟨i+1,by omega,by go_num,PUT.out⟩
    case measure=>simp[intOf] <;> omega
  ·obtain rfl:i=64:=by omega
   have t0:decide ((64:Int)<64)=false:=by simp
   obtain⟨V,hV⟩:∃V,Ybb (Ykr f q intra dc 64)=V:=⟨_,rfl⟩;have HV:=Lib.hid hV;have h2':wr.heap[B+2]? =some (.cells V 60 (0,0)):=by rw[←hV];exact h2
   have HSV:(Tryz.prog.info? 60).map (·.size)=some V.size:=by rw[←hV];exact Yau _
   have HOV:V.all (·.oneCell')=true:=by rw[←hV];exact Ya9 _
   have HYV:Y.size=V.size:=by rw[←hV,HSY,Yak]
   clear hV h2 h0
   go_wp2_with (first|(with_reducible refine wpList_load_row rfl 60 _ rfl (B+2) rfl 60 V (0,0) _ h2' Tryz.underlying60 rfl HSV ?_)|(with_reducible refine Yae rfl 60 _ _ rfl (B+1) V Y rfl rfl 60 h1 HSV HYV HOV ?_;intro w2 hh2 hg2))
   refine bodyPost_ret (results_cell_row rfl _ _ (B+1) 60 _ (0,0) _ rfl hh2 Tryz.underlying60 rfl HSV) rfl ?_;exact Yhf (Y0b f q intra dc) HV.out (by rw[HB.out];exact hb.grown hg2 (by omega) (fun k hk=>by injection hk with hk;omega))
theorem Yca (a b c d:Int)(w:World):(Instr.index 75 (.agg #[.int .i64 a,.int .i64 b,.int .i64 c,.int .i64 d]) (.int .i64 0)).run Tryz.prog w=.ok (.int .i64 a) w∧
  (Instr.index 75 (.agg #[.int .i64 a,.int .i64 b,.int .i64 c,.int .i64 d]) (.int .i64 1)).run Tryz.prog w=.ok (.int .i64 b) w:=by
 obtain⟨j,hj⟩:=Yeu;have h0:(0:Int)≤0∧(0:Int)<((4:Nat):Int):=by omega
 have h1:(0:Int)≤1∧(1:Int)<((4:Nat):Int):=by omega
 constructor
 ·simp only[Instr.index,asIntOf,Sem.run_bind,Sem.run_pure,Result.andThen_ok,run_underlying Tryz.underlying75,if_pos h0,run_sizeOf w hj,Ycz,Nat.mul_one];exact run_part_plain w Ycq rfl
 ·simp only[Instr.index,asIntOf,Sem.run_bind,Sem.run_pure,Result.andThen_ok,run_underlying Tryz.underlying75,if_pos h1,run_sizeOf w hj,Ycz,Nat.mul_one];exact run_part_plain w Ycq rfl
theorem Yl4 (k:Int):(Yd3 k).tdiv 16=(acr k:Int)∧(Yd6 k).tdiv 16=(dow k:Int)∧(Yd3 k).tdiv 2=((8*acr k:Nat):Int)∧(Yd6 k).tdiv 2=((8*dow k:Nat):Int):=by
 obtain⟨_,_,h3,h4,_⟩:=Yb5 k;rw[h3,h4,Int.tdiv_eq_ediv_of_nonneg (by omega),Int.tdiv_eq_ediv_of_nonneg (by omega),Int.tdiv_eq_ediv_of_nonneg (by omega),Int.tdiv_eq_ediv_of_nonneg (by omega)];omega
set_option maxRecDepth 100000 in
set_option maxHeartbeats 2000000 in
theorem Yop (k:Int)(w:World):Calls Tryz.prog 60 #[.int .i64 k] w fun e w'=>e=.returned (.int .i64 (Ybg k:Int))∧Below w.heap.size w w':=by
 have c:=fun w=>Yc9 k w;obtain⟨d1,d2,-⟩:=Yl4 k;obtain⟨-,-,-,-,m1,m2⟩:=Yb5 k;have hs:(acr k:Int)*(dow k:Int)=(Ybg k:Int):=(Int.natCast_mul _ _).symm;have hw:IntKind.i64.wrap (Ybg k:Int)=(Ybg k:Int):=Yde (by have:=Ydr k;omega);have w1:IntKind.i64.wrap (acr k:Int)=(acr k:Int):=Yde (by omega);have w2:IntKind.i64.wrap (dow k:Int)=(dow k:Int):=Yde (by omega)
 have ix0:=fun w=>(Yca (Yd3 k) (Yd6 k) (Yga k) (Ygz k) w).1;have ix1:=fun w=>(Yca (Yd3 k) (Yd6 k) (Yga k) (Ygz k) w).2;unfold Yrw at c;clear m1 m2;generalize acr k=a at *;generalize dow k=b at *;generalize Ybg k=m at *;generalize Yd3 k=W at *;generalize Yd6 k=H at *;generalize Yga k=R at *;generalize Ygz k=L at *
 go_enter Tryz.func60,Tryz.ntmps60
 go_wp2_with fail
 refine(c _).mono ?_;rintro e x1 ⟨rfl,hb1⟩
 go_wp2_with fail
 refine(c _).mono ?_;rintro e x2 ⟨rfl,hb2⟩
 go_wp2
 go_ret
 exact⟨rfl,hb1.trans (hb2.mono hb1.size)⟩
theorem Yzb (k:Int):((Ybg k:Int)==0) = !Yb6 k:=by
 cases h:Yb6 k with
 |false=>rw[Yh3 h];rfl
 |true=>
  have h1:=Yl5 h;have h2:0<Ybg k:=Nat.mul_pos h1.1 h1.2;show ((Ybg k:Int)==0)=false;rw[beq_eq_false_iff_ne];omega
end Go.Proofs.YtnamlooifcpoaaaGreatDoor