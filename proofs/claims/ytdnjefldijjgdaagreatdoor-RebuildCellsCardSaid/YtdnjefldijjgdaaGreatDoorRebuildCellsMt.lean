/- No condition. -/
import Derived.Test.YtdnjefldijjgdaaGreatDoorRebuildCellsMg
import Derived.Test.YtdnjefldijjgdaaGreatDoorRebuildCellsMn
import Derived.Test.YtdnjefldijjgdaaGreatDoorRebuildCellsMs
import Derived.WalkMore
namespace Go.Proofs.YtdnjefldijjgdaaGreatDoor
open Go.RowKit Go.Lib
def Yme (f:Nat→Int)(q:Int)(intra:Bool)(dc:Int)(i:Nat):Int:=if i=0∧intra=true then dcV dc else Yle (f i) q
def Ymf (f:Nat→Int)(q:Int):Nat→(Nat→Int)
 |0=>fun _=>0
 |k+1=>Yb7 (Ymf f q k) k (Yle (f k) q)
theorem Yld (f:Nat→Int)(q:Int):∀k p,Ymf f q k p=if p<k then Yle (f p) q else 0
 |0,p=>rfl
 |k+1,p=>by
  unfold Ymf Yb7;by_cases e:p=k
  ·subst e;rw[if_pos rfl,if_pos (by omega)]
  ·rw[if_neg e,Yld f q k p];by_cases hlt:p<k
   ·rw[if_pos hlt,if_pos (by omega)]
   ·rw[if_neg hlt,if_neg (by omega)]
theorem Ynv (f:Nat→Int)(q dc:Int):∀p,p<64→Ymf f q 64 p=Yme f q false dc p:=by
 intro p hp;rw[Yld,if_pos hp];unfold Yme;rw[if_neg (by simp)]
theorem Ynu (f:Nat→Int)(q dc:Int):∀p,p<64→Yb7 (Ymf f q 64) 0 (dcV dc) p=Yme f q true dc p:=by
 intro p hp;unfold Yb7 Yme;by_cases e:p=0
 ·rw[if_pos e,if_pos ⟨e,rfl⟩]
 ·rw[if_neg e,if_neg (by simp[e]),Yld,if_pos hp]
def Yg3 (f:Nat→Int)(q:Int)(intra:Bool)(dc:Int):Nat→(Nat→Int)
 |0=>fun _=>0
 |k+1=>Yb7 (Yg3 f q intra dc k) k (Yme f q intra dc k)
theorem Ypi (f:Nat→Int)(q:Int)(intra:Bool)(dc:Int):∀k p,Yg3 f q intra dc k p=if p<k then Yme f q intra dc p else 0
 |0,p=>rfl
 |k+1,p=>by
  unfold Yg3 Yb7;by_cases e:p=k
  ·subst e;rw[if_pos rfl,if_pos (by omega)]
  ·rw[if_neg e,Ypi f q intra dc k p];by_cases hlt:p<k
   ·rw[if_pos hlt,if_pos (by omega)]
   ·rw[if_neg hlt,if_neg (by omega)]
theorem Yrt (f:Nat→Int)(q:Int)(intra:Bool)(dc:Int):∀p,p<64→Yg3 f q intra dc 64 p=Yme f q intra dc p:=by
 intro p hp;rw[Ypi,if_pos hp]
set_option maxRecDepth 100000 in
set_option maxHeartbeats 2000000 in
theorem Yqp (f:Nat→Int)(q:Int)(intra:Bool)(dc:Int)(w:World):Calls Tryz.prog 61 #[.agg (Yay f),.int .i64 q,.bool intra,.int .i64 dc] w (Ya6 (Yme f q intra dc) w):=by
 obtain⟨B,hB⟩:∃B,w.heap.size=B:=⟨_,rfl⟩;obtain⟨X,hX⟩:∃X,Yay f=X:=⟨_,rfl⟩;obtain⟨Y,hY⟩:∃Y,Yay (fun _=>0)=Y:=⟨_,rfl⟩;have hidx:=fun(w:World) (i:Nat) (h:i<64)=>Yf6 f h w;have hz0:∀w,(zeroValue 36).run Tryz.prog w=.ok (.agg Y) w:=by rw[←hY];exact Ybd
 have HSY:Y.size=64:=by rw[←hY];exact Yak _
 have HSX:(Tryz.prog.info? 36).map (·.size)=some X.size:=by rw[←hX];exact Yan _
 obtain⟨wA,hwA⟩:∃wA,w.alloc (.cells X 36 (0,0))=wA:=⟨_,rfl⟩;obtain⟨wB,hwB⟩:∃wB,wA.alloc (.cells Y 36 (0,0))=wB:=⟨_,rfl⟩;obtain⟨wC,hwC⟩:∃wC,wB.alloc (.cells Y 36 (0,0))=wC:=⟨_,rfl⟩;have hzA:wA.heap.size=B+1:=by rw[←hwA,←hB];simp
 have hzB:wB.heap.size=B+2:=by rw[←hwB];simp;omega
 have hzC:wC.heap.size=B+3:=by rw[←hwC];simp;omega
 have hA0:wA.heap[B]? =some (.cells X 36 (0,0)):=by rw[←hwA,←hB];exact heap_alloc_new w _
 have hB0:wB.heap[B]? =some (.cells X 36 (0,0)):=by rw[←hwB];exact Yao hA0
 have hB1:wB.heap[B+1]? =some (.cells Y 36 (0,0)):=by rw[←hwB,←hzA];exact heap_alloc_new wA _
 have hC0:wC.heap[B]? =some (.cells X 36 (0,0)):=by rw[←hwC];exact Yao hB0
 have hC1:wC.heap[B+1]? =some (.cells Y 36 (0,0)):=by rw[←hwC];exact Yao hB1
 have hC2:wC.heap[B+2]? =some (Yb8 (Ymf f q 0)):=by
  rw[←hwC,←hzB];refine(heap_alloc_new wB _).trans ?_;rw[←hY]
  rfl
 have hbC:Below B w wC:=by
  rw[←hwC,←hwB,←hwA,←hB];exact(((Below.refl _ w).alloc (Nat.le_refl _) _).alloc (by simp) _).alloc (by simp;omega) _
 rw[hX];rw[hX] at hidx;have HIX:=Lib.hid hidx;have HY:=Lib.hid hY;have HWA:=Lib.hid hwA;have HWB:=Lib.hid hwB;have HWC:=Lib.hid hwC;have HB:=Lib.hid hB;clear hX hY hidx hA0 hB0 hB1 hwA hwB hwC hB
 go_enter Tryz.func61,Tryz.ntmps61
 go_wp2_with (rw[HWA.out,HB.out,HWB.out,HWC.out];with_reducible refine wpList_load_row rfl 36 _ rfl B rfl 36 X (0,0) _ hC0 Tryz.underlying36 rfl HSX ?_)
 go_loopw [13] (fun z wr=>∃i:Nat,i≤64∧z=.int .i64 i∧wr.heap[B+1]? =some (.cells Y 36 (0,0))∧wr.heap[B+2]? =some (Yb8 (Ymf f q i))∧Below B w wr∧B+3≤wr.heap.size) (fun z _=>64-(intOf z).toNat)
 case atStart=>exact⟨0,by omega,rfl,hC1,hC2,hbC,by omega⟩
 case round=>
  clear hC0 hC1 hC2 hbC hzA hzB hzC;obtain⟨i,hi64,rfl,h1,h2,hb,hz⟩:=hrel;by_cases hlt:i<64
  ·have hix:=fun w=>HIX.out w i hlt;have t0:decide ((i:Int)<64)=true:=by simp;omega
   have S:=Lib.hid (show Ymf f q (i+1)=Yb7 (Ymf f q i) i (Yle (f i) q) from rfl);have cv:=fun w=>Ysi (f i) q w;generalize Yle (f i) q=y at cv S;generalize f i=x at cv hix;have c2:=Ya3 h2 hlt;have ff:=Yb3 (i:=i) h2;generalize Ymf f q i i=y2 at c2
   have PUT:=Lib.hid (⟨Yaq h1 (by simp),by rw[S.out];exact Yci y h2,hb.setCell (by simp) _,by simp[World.setCell];omega⟩:(wr.setCell ⟨B+2,i,none⟩ (.int .i64 y)).heap[B+1]? =some (.cells Y 36 (0,0))∧(wr.setCell ⟨B+2,i,none⟩ (.int .i64 y)).heap[B+2]? =some (Yb8 (Ymf f q (i+1)))∧Below B w (wr.setCell ⟨B+2,i,none⟩ (.int .i64 y))∧B+3≤(wr.setCell ⟨B+2,i,none⟩ (.int .i64 y)).heap.size);clear h1 h2 hb
   go_wp2_with (with_reducible refine(cv _).mono ?_;rintro e w1 ⟨rfl,rfl⟩)
   go_roundw
   case rel=>exact⟨i+1,by omega,by go_num,PUT.out⟩
   case measure=>simp[intOf] <;> omega
  ·obtain rfl:i=64:=by omega
   have t0:decide ((64:Int)<64)=false:=by simp
   cases intra with
   |false=>
    obtain⟨V,hV⟩:∃V,Yay (Ymf f q 64)=V:=⟨_,rfl⟩;have HV:=Lib.hid hV;have h2':wr.heap[B+2]? =some (.cells V 36 (0,0)):=by rw[←hV];exact h2
    have HSV:(Tryz.prog.info? 36).map (·.size)=some V.size:=by rw[←hV];exact Yan _
    have HOV:V.all (·.oneCell')=true:=by rw[←hV];exact Ya0 _
    have HYV:Y.size=V.size:=by rw[←hV,HSY,Yak]
    clear hV h2
    go_wp2_with (first|(with_reducible refine wpList_load_row rfl 36 _ rfl (B+2) rfl 36 V (0,0) _ h2' Tryz.underlying36 rfl HSV ?_)|(with_reducible refine Yad rfl 36 _ _ rfl (B+1) V Y rfl rfl 36 h1 HSV HYV HOV ?_;intro w2 hh2 hg2))
    refine bodyPost_ret (results_cell_row rfl _ _ (B+1) 36 _ (0,0) _ rfl hh2 Tryz.underlying36 rfl HSV) rfl ?_;exact Yeu (Ynv f q dc) HV.out (by rw[HB.out];exact hb.grown hg2 (by omega) (fun k hk=>by injection hk with hk;omega))
   |true=>
    have cd:=fun w=>Ys3 dc w;obtain⟨V,hV⟩:∃V,Yay (Yb7 (Ymf f q 64) 0 (dcV dc))=V:=⟨_,rfl⟩;have HV:=Lib.hid hV;have HSV:(Tryz.prog.info? 36).map (·.size)=some V.size:=by rw[←hV];exact Yan _
    have HOV:V.all (·.oneCell')=true:=by rw[←hV];exact Ya0 _
    have HYV:Y.size=V.size:=by rw[←hV,HSY,Yak]
    have c2:=Ya3 h2 (show 0<64 by omega);have ff:=Yb3 (i:=0) h2;generalize dcV dc=y at cd hV;have PUT:=Lib.hid (⟨Yaq h1 (by simp),by rw[←hV];exact Yci y h2,hb.setCell (by simp) _⟩:(wr.setCell ⟨B+2,0,none⟩ (.int .i64 y)).heap[B+1]? =some (.cells Y 36 (0,0))∧(wr.setCell ⟨B+2,0,none⟩ (.int .i64 y)).heap[B+2]? =some (.cells V 36 (0,0))∧Below B w (wr.setCell ⟨B+2,0,none⟩ (.int .i64 y)))
    generalize Ymf f q 64 0=y2 at c2;obtain⟨wD,hwD⟩:∃wD,wr.setCell ⟨B+2,0,none⟩ (.int .i64 y)=wD:=⟨_,rfl⟩;have hzD:wD.heap.size=wr.heap.size:=by rw[←hwD];simp[World.setCell]
    rw[hwD] at PUT;obtain⟨k1,k2,k3⟩:=PUT.out;have HWD:=Lib.hid hwD;clear hV h2 h1 hwD PUT
    go_wp2_with (first|(with_reducible refine(cd _).mono ?_;rintro e w1 ⟨rfl,rfl⟩)|(rw[HWD.out];with_reducible refine wpList_load_row rfl 36 _ rfl (B+2) rfl 36 V (0,0) _ k2 Tryz.underlying36 rfl HSV ?_)|(with_reducible refine Yad rfl 36 _ _ rfl (B+1) V Y rfl rfl 36 k1 HSV HYV HOV ?_;intro w2 hh2 hg2))
    refine bodyPost_ret (results_cell_row rfl _ _ (B+1) 36 _ (0,0) _ rfl hh2 Tryz.underlying36 rfl HSV) rfl ?_;exact Yeu (Ynu f q dc) HV.out (by rw[HB.out];exact k3.grown hg2 (by omega) (fun k hk=>by injection hk with hk;omega))
set_option maxRecDepth 100000 in
set_option maxHeartbeats 2000000 in
theorem Yqq (f:Nat→Int)(q:Int)(intra:Bool)(dc:Int)(w:World):Calls Tryz.prog 53 #[.agg (Yay f),.int .i64 q,.bool intra,.int .i64 dc] w (Ya6 (Yme f q intra dc) w):=by
 obtain⟨B,hB⟩:∃B,w.heap.size=B:=⟨_,rfl⟩;obtain⟨X,hX⟩:∃X,Yay f=X:=⟨_,rfl⟩;obtain⟨Y,hY⟩:∃Y,Yay (fun _=>0)=Y:=⟨_,rfl⟩;have hz0:∀w,(zeroValue 36).run Tryz.prog w=.ok (.agg Y) w:=by rw[←hY];exact Ybd
 have HSY:Y.size=64:=by rw[←hY];exact Yak _
 obtain⟨wA,hwA⟩:∃wA,w.alloc (.cells X 36 (0,0))=wA:=⟨_,rfl⟩;obtain⟨wB,hwB⟩:∃wB,wA.alloc (.cells Y 36 (0,0))=wB:=⟨_,rfl⟩;obtain⟨wC,hwC⟩:∃wC,wB.alloc (.cells Y 36 (0,0))=wC:=⟨_,rfl⟩;have hzA:wA.heap.size=B+1:=by rw[←hwA,←hB];simp
 have hzB:wB.heap.size=B+2:=by rw[←hwB];simp;omega
 have hzC:wC.heap.size=B+3:=by rw[←hwC];simp;omega
 have hA0:wA.heap[B]? =some (Yb8 f):=by rw[←hwA,←hB,←hX];exact heap_alloc_new w _
 have hB0:wB.heap[B]? =some (Yb8 f):=by rw[←hwB];exact Yao hA0
 have hB1:wB.heap[B+1]? =some (.cells Y 36 (0,0)):=by rw[←hwB,←hzA];exact heap_alloc_new wA _
 have hC0:wC.heap[B]? =some (Yb8 f):=by rw[←hwC];exact Yao hB0
 have hC1:wC.heap[B+1]? =some (.cells Y 36 (0,0)):=by rw[←hwC];exact Yao hB1
 have hC2:wC.heap[B+2]? =some (Yb8 (Yg3 f q intra dc 0)):=by
  rw[←hwC,←hzB];refine(heap_alloc_new wB _).trans ?_;rw[←hY]
  rfl
 have hbC:Below B w wC:=by
  rw[←hwC,←hwB,←hwA,←hB];exact(((Below.refl _ w).alloc (Nat.le_refl _) _).alloc (by simp) _).alloc (by simp;omega) _
 rw[hX];have HY:=Lib.hid hY;have HWA:=Lib.hid hwA;have HWB:=Lib.hid hwB;have HWC:=Lib.hid hwC;have HB:=Lib.hid hB;clear hX hY hA0 hB0 hB1 hwA hwB hwC hB
 go_enter Tryz.func53,Tryz.ntmps53
 go_wp2_with fail
 rw[HWA.out,HB.out,HWB.out,HWC.out]
 go_loopw [10] (fun z wr=>∃i:Nat,i≤64∧z=.int .i64 i∧wr.heap[B]? =some (Yb8 f)∧wr.heap[B+1]? =some (.cells Y 36 (0,0))∧wr.heap[B+2]? =some (Yb8 (Yg3 f q intra dc i))∧Below B w wr∧B+3≤wr.heap.size) (fun z _=>64-(intOf z).toNat)
 case atStart=>exact⟨0,by omega,rfl,hC0,hC1,hC2,hbC,by omega⟩
 case round=>
  clear hC0 hC1 hC2 hbC hzA hzB hzC;obtain⟨i,hi64,rfl,h0,h1,h2,hb,hz⟩:=hrel;by_cases hlt:i<64
  ·have t0:decide ((i:Int)<64)=true:=by simp;omega
   by_cases e0:i=0
   ·subst e0;cases intra with
    |false=>
     have S:=Lib.hid (show Yg3 f q false dc (0+1)=Yb7 (Yg3 f q false dc 0) 0 (Yle (f 0) q) from rfl);have c0:=Ya3 h0 hlt;have cv:=fun w=>Yis (f 0) q w;generalize Yle (f 0) q=y at cv S;generalize f 0=x at cv c0;have c2:=Ya3 h2 hlt;have ff:=Yb3 (i:=0) h2
     have PUT:=Lib.hid (⟨Yaq h0 (by simp),Yaq h1 (by simp),by rw[S.out];exact Yci y h2,hb.setCell (by simp) _,by simp[World.setCell];omega⟩:(wr.setCell ⟨B+2,0,none⟩ (.int .i64 y)).heap[B]? =some (Yb8 f)∧(wr.setCell ⟨B+2,0,none⟩ (.int .i64 y)).heap[B+1]? =some (.cells Y 36 (0,0))∧(wr.setCell ⟨B+2,0,none⟩ (.int .i64 y)).heap[B+2]? =some (Yb8 (Yg3 f q false dc (0+1)))∧Below B w (wr.setCell ⟨B+2,0,none⟩ (.int .i64 y))∧B+3≤(wr.setCell ⟨B+2,0,none⟩ (.int .i64 y)).heap.size)
     generalize Yg3 f q false dc 0 0=y2 at c2;clear h0 h1 h2 hb
     go_wp2_with (with_reducible refine(cv _).mono ?_;rintro e w1 ⟨rfl,rfl⟩)
     go_roundw
     case rel=>exact⟨0+1,by omega,by go_num,PUT.out⟩
     case measure=>simp[intOf] <;> omega
    |true=>
     have S:=Lib.hid (show Yg3 f q true dc (0+1)=Yb7 (Yg3 f q true dc 0) 0 (dcV dc) from rfl);have c0:=Ya3 h0 hlt;have cv:=fun w=>Yis (f 0) q w;have cd:=fun w=>Ys4 dc w;generalize dcV dc=z at cd S;generalize Yle (f 0) q=y at cv;generalize f 0=x at cv c0;have c2:=Ya3 h2 hlt;have ff:=Yb3 (i:=0) h2
     have hx1:(wr.setCell ⟨B+2,0,none⟩ (.int .i64 y)).heap[B+2]? =some (Yb8 (Yb7 (Yg3 f q true dc 0) 0 y)):=Yci y h2;have c3:=Ya3 hx1 (show 0<64 by omega);have f3:=Yb3 (i:=0) hx1;rw[show Yb7 (Yg3 f q true dc 0) 0 y 0=y from rfl] at c3;have S2:∀g:Nat→Int,Yb7 (Yb7 g 0 y) 0 z=Yb7 g 0 z:=fun g=>funext fun k=>by unfold Yb7;split <;> rfl
     have PUT:=Lib.hid (⟨Yaq (Yaq h0 (by simp)) (by simp),Yaq (Yaq h1 (by simp)) (by simp),(by rw[S.out,←S2];exact Yci z hx1),(hb.setCell (by simp) _).setCell (by simp) _,by simp[World.setCell];omega⟩:((wr.setCell ⟨B+2,0,none⟩ (.int .i64 y)).setCell ⟨B+2,0,none⟩ (.int .i64 z)).heap[B]? =some (Yb8 f)∧((wr.setCell ⟨B+2,0,none⟩ (.int .i64 y)).setCell ⟨B+2,0,none⟩ (.int .i64 z)).heap[B+1]? =some (.cells Y 36 (0,0))∧((wr.setCell ⟨B+2,0,none⟩ (.int .i64 y)).setCell ⟨B+2,0,none⟩ (.int .i64 z)).heap[B+2]? =some (Yb8 (Yg3 f q true dc (0+1)))∧Below B w ((wr.setCell ⟨B+2,0,none⟩ (.int .i64 y)).setCell ⟨B+2,0,none⟩ (.int .i64 z))∧B+3≤((wr.setCell ⟨B+2,0,none⟩ (.int .i64 y)).setCell ⟨B+2,0,none⟩ (.int .i64 z)).heap.size)
     generalize Yg3 f q true dc 0 0=y2 at c2;clear hx1;clear h0 h1 h2 hb
     go_wp2_with (first|(with_reducible refine(cv _).mono ?_;rintro e w1 ⟨rfl,rfl⟩)|(with_reducible refine(cd _).mono ?_;rintro e w1 ⟨rfl,rfl⟩))
     go_roundw
     case rel=>exact⟨0+1,by omega,by go_num,PUT.out⟩
     case measure=>simp[intOf] <;> omega
   ·have t1:((i:Int)==0)=false:=by simpa using e0
    have S:=Lib.hid (show Yg3 f q intra dc (i+1)=Yb7 (Yg3 f q intra dc i) i (Yle (f i) q) from by rw[show Yle (f i) q=Yme f q intra dc i by unfold Yme;rw[if_neg (by simp[e0])]];rfl);have c0:=Ya3 h0 hlt;have cv:=fun w=>Yis (f i) q w;generalize Yle (f i) q=y at cv S;generalize f i=x at cv c0;have c2:=Ya3 h2 hlt;have ff:=Yb3 (i:=i) h2
    have PUT:=Lib.hid (⟨Yaq h0 (by simp),Yaq h1 (by simp),by rw[S.out];exact Yci y h2,hb.setCell (by simp) _,by simp[World.setCell];omega⟩:(wr.setCell ⟨B+2,i,none⟩ (.int .i64 y)).heap[B]? =some (Yb8 f)∧(wr.setCell ⟨B+2,i,none⟩ (.int .i64 y)).heap[B+1]? =some (.cells Y 36 (0,0))∧(wr.setCell ⟨B+2,i,none⟩ (.int .i64 y)).heap[B+2]? =some (Yb8 (Yg3 f q intra dc (i+1)))∧Below B w (wr.setCell ⟨B+2,i,none⟩ (.int .i64 y))∧B+3≤(wr.setCell ⟨B+2,i,none⟩ (.int .i64 y)).heap.size)
    generalize Yg3 f q intra dc i i=y2 at c2;clear h0 h1 h2 hb
    go_wp2_with (with_reducible refine(cv _).mono ?_;rintro e w1 ⟨rfl,rfl⟩)
    go_roundw
    case rel=>exact⟨i+1,by omega,by go_num,PUT.out⟩
    case measure=>simp[intOf] <;> omega
  ·obtain rfl:i=64:=by omega
   have t0:decide ((64:Int)<64)=false:=by simp
   obtain⟨V,hV⟩:∃V,Yay (Yg3 f q intra dc 64)=V:=⟨_,rfl⟩;have HV:=Lib.hid hV;have h2':wr.heap[B+2]? =some (.cells V 36 (0,0)):=by rw[←hV];exact h2
   have HSV:(Tryz.prog.info? 36).map (·.size)=some V.size:=by rw[←hV];exact Yan _
   have HOV:V.all (·.oneCell')=true:=by rw[←hV];exact Ya0 _
   have HYV:Y.size=V.size:=by rw[←hV,HSY,Yak]
   clear hV h2 h0
   go_wp2_with (first|(with_reducible refine wpList_load_row rfl 36 _ rfl (B+2) rfl 36 V (0,0) _ h2' Tryz.underlying36 rfl HSV ?_)|(with_reducible refine Yad rfl 36 _ _ rfl (B+1) V Y rfl rfl 36 h1 HSV HYV HOV ?_;intro w2 hh2 hg2))
   refine bodyPost_ret (results_cell_row rfl _ _ (B+1) 36 _ (0,0) _ rfl hh2 Tryz.underlying36 rfl HSV) rfl ?_;exact Yeu (Yrt f q intra dc) HV.out (by rw[HB.out];exact hb.grown hg2 (by omega) (fun k hk=>by injection hk with hk;omega))
theorem Ybm (a b c d:Int)(w:World):(Instr.index 54 (.agg #[.int .i64 a,.int .i64 b,.int .i64 c,.int .i64 d]) (.int .i64 0)).run Tryz.prog w=.ok (.int .i64 a) w∧
  (Instr.index 54 (.agg #[.int .i64 a,.int .i64 b,.int .i64 c,.int .i64 d]) (.int .i64 1)).run Tryz.prog w=.ok (.int .i64 b) w:=by
 obtain⟨j,hj⟩:=Ydh;have h0:(0:Int)≤0∧(0:Int)<((4:Nat):Int):=by omega
 have h1:(0:Int)≤1∧(1:Int)<((4:Nat):Int):=by omega
 constructor
 ·simp only[Instr.index,asIntOf,Sem.run_bind,Sem.run_pure,Result.andThen_ok,run_underlying Tryz.underlying54,if_pos h0,run_sizeOf w hj,Ycq,Nat.mul_one];exact run_part_plain w Yb2 rfl
 ·simp only[Instr.index,asIntOf,Sem.run_bind,Sem.run_pure,Result.andThen_ok,run_underlying Tryz.underlying54,if_pos h1,run_sizeOf w hj,Ycq,Nat.mul_one];exact run_part_plain w Yb2 rfl
theorem Yhu (k:Int):(Yda k).tdiv 16=(acr k:Int)∧(Ydd k).tdiv 16=(dow k:Int)∧(Yda k).tdiv 2=((8*acr k:Nat):Int)∧(Ydd k).tdiv 2=((8*dow k:Nat):Int):=by
 obtain⟨_,_,h3,h4,_⟩:=Ybu k;rw[h3,h4,Int.tdiv_eq_ediv_of_nonneg (by omega),Int.tdiv_eq_ediv_of_nonneg (by omega),Int.tdiv_eq_ediv_of_nonneg (by omega),Int.tdiv_eq_ediv_of_nonneg (by omega)];omega
set_option maxRecDepth 100000 in
set_option maxHeartbeats 2000000 in
theorem Yjp (k:Int)(w:World):Calls Tryz.prog 10 #[.int .i64 k] w fun e w'=>e=.returned (.int .i64 (Ybr k:Int))∧Below w.heap.size w w':=by
 have c:=fun w=>Yc3 k w;obtain⟨d1,d2,-⟩:=Yhu k;obtain⟨-,-,-,-,m1,m2⟩:=Ybu k;have hs:(acr k:Int)*(dow k:Int)=(Ybr k:Int):=(Int.natCast_mul _ _).symm;have hw:IntKind.i64.wrap (Ybr k:Int)=(Ybr k:Int):=Ycv (by have:=Ye9 k;omega);have w1:IntKind.i64.wrap (acr k:Int)=(acr k:Int):=Ycv (by omega);have w2:IntKind.i64.wrap (dow k:Int)=(dow k:Int):=Ycv (by omega)
 have ix0:=fun w=>(Ybm (Yda k) (Ydd k) (Yjf k) (Yje k) w).1;have ix1:=fun w=>(Ybm (Yda k) (Ydd k) (Yjf k) (Yje k) w).2;unfold Yqe at c;clear m1 m2;generalize acr k=a at *;generalize dow k=b at *;generalize Ybr k=m at *;generalize Yda k=W at *;generalize Ydd k=H at *;generalize Yjf k=R at *;generalize Yje k=L at *
 go_enter Tryz.func10,Tryz.ntmps10
 go_wp2_with fail
 refine(c _).mono ?_;rintro e x1 ⟨rfl,hb1⟩
 go_wp2_with fail
 refine(c _).mono ?_;rintro e x2 ⟨rfl,hb2⟩
 go_wp2
 go_ret
 exact⟨rfl,hb1.trans (hb2.mono hb1.size)⟩
end Go.Proofs.YtdnjefldijjgdaaGreatDoor