/- No condition. -/
import Derived.Test.YtkgabfmjfhljdaaDoorResidueOfMg
import Derived.Test.YtkgabfmjfhljdaaDoorResidueOfMn
import Derived.WalkMore
namespace Go.Proofs.YtkgabfmjfhljdaaDoor
open Go.RowKit Go.Lib
def Yiz (f:Nat→Int)(q:Int)(intra:Bool)(dc:Int)(i:Nat):Int:=if i=0∧intra=true then dcV dc else Ygy (f i) q
def Yjw (f:Nat→Int)(q:Int):Nat→(Nat→Int)
 |0=>fun _=>0
 |k+1=>Ybn (Yjw f q k) k (Ygy (f k) q)
theorem Yi0 (f:Nat→Int)(q:Int):∀k p,Yjw f q k p=if p<k then Ygy (f p) q else 0
 |0,p=>rfl
 |k+1,p=>by
  unfold Yjw Ybn;by_cases e:p=k
  ·subst e;rw[if_pos rfl,if_pos (by omega)]
  ·rw[if_neg e,Yi0 f q k p];by_cases hlt:p<k
   ·rw[if_pos hlt,if_pos (by omega)]
   ·rw[if_neg hlt,if_neg (by omega)]
theorem Yk4 (f:Nat→Int)(q dc:Int):∀p,p<64→Yjw f q 64 p=Yiz f q false dc p:=by
 intro p hp;rw[Yi0,if_pos hp];unfold Yiz;rw[if_neg (by simp)]
theorem Yk3 (f:Nat→Int)(q dc:Int):∀p,p<64→Ybn (Yjw f q 64) 0 (dcV dc) p=Yiz f q true dc p:=by
 intro p hp;unfold Ybn Yiz;by_cases e:p=0
 ·rw[if_pos e,if_pos ⟨e,rfl⟩]
 ·rw[if_neg e,if_neg (by simp[e]),Yi0,if_pos hp]
def Yfn (f:Nat→Int)(q:Int)(intra:Bool)(dc:Int):Nat→(Nat→Int)
 |0=>fun _=>0
 |k+1=>Ybn (Yfn f q intra dc k) k (Yiz f q intra dc k)
theorem Ymn (f:Nat→Int)(q:Int)(intra:Bool)(dc:Int):∀k p,Yfn f q intra dc k p=if p<k then Yiz f q intra dc p else 0
 |0,p=>rfl
 |k+1,p=>by
  unfold Yfn Ybn;by_cases e:p=k
  ·subst e;rw[if_pos rfl,if_pos (by omega)]
  ·rw[if_neg e,Ymn f q intra dc k p];by_cases hlt:p<k
   ·rw[if_pos hlt,if_pos (by omega)]
   ·rw[if_neg hlt,if_neg (by omega)]
theorem Yok (f:Nat→Int)(q:Int)(intra:Bool)(dc:Int):∀p,p<64→Yfn f q intra dc 64 p=Yiz f q intra dc p:=by
 intro p hp;rw[Ymn,if_pos hp]
set_option maxRecDepth 100000 in
set_option maxHeartbeats 2000000 in
theorem Ynj (f:Nat→Int)(q:Int)(intra:Bool)(dc:Int)(w:World):Calls Tryd.prog 30 #[.agg (Ya0 f),.int .i64 q,.bool intra,.int .i64 dc] w (Yax (Yiz f q intra dc) w):=by
 obtain⟨B,hB⟩:∃B,w.heap.size=B:=⟨_,rfl⟩;obtain⟨X,hX⟩:∃X,Ya0 f=X:=⟨_,rfl⟩;obtain⟨Y,hY⟩:∃Y,Ya0 (fun _=>0)=Y:=⟨_,rfl⟩;have hidx:=fun(w:World) (i:Nat) (h:i<64)=>Yey f h w;have hz0:∀w,(zeroValue 30).run Tryd.prog w=.ok (.agg Y) w:=by rw[←hY];exact Ya6
 have HSY:Y.size=64:=by rw[←hY];exact Yag _
 have HSX:(Tryd.prog.info? 30).map (·.size)=some X.size:=by rw[←hX];exact Yal _
 obtain⟨wA,hwA⟩:∃wA,w.alloc (.cells X 30 (0,0))=wA:=⟨_,rfl⟩;obtain⟨wB,hwB⟩:∃wB,wA.alloc (.cells Y 30 (0,0))=wB:=⟨_,rfl⟩;obtain⟨wC,hwC⟩:∃wC,wB.alloc (.cells Y 30 (0,0))=wC:=⟨_,rfl⟩;have hzA:wA.heap.size=B+1:=by rw[←hwA,←hB];simp
 have hzB:wB.heap.size=B+2:=by rw[←hwB];simp;omega
 have hzC:wC.heap.size=B+3:=by rw[←hwC];simp;omega
 have hA0:wA.heap[B]? =some (.cells X 30 (0,0)):=by rw[←hwA,←hB];exact heap_alloc_new w _
 have hB0:wB.heap[B]? =some (.cells X 30 (0,0)):=by rw[←hwB];exact Yai hA0
 have hB1:wB.heap[B+1]? =some (.cells Y 30 (0,0)):=by rw[←hwB,←hzA];exact heap_alloc_new wA _
 have hC0:wC.heap[B]? =some (.cells X 30 (0,0)):=by rw[←hwC];exact Yai hB0
 have hC1:wC.heap[B+1]? =some (.cells Y 30 (0,0)):=by rw[←hwC];exact Yai hB1
 have hC2:wC.heap[B+2]? =some (Ybp (Yjw f q 0)):=by
  rw[←hwC,←hzB];refine(heap_alloc_new wB _).trans ?_;rw[←hY]
  rfl
 have hbC:Below B w wC:=by
  rw[←hwC,←hwB,←hwA,←hB];exact(((Below.refl _ w).alloc (Nat.le_refl _) _).alloc (by simp) _).alloc (by simp;omega) _
 rw[hX];rw[hX] at hidx;have HIX:=Lib.hid hidx;have HY:=Lib.hid hY;have HWA:=Lib.hid hwA;have HWB:=Lib.hid hwB;have HWC:=Lib.hid hwC;have HB:=Lib.hid hB;clear hX hY hidx hA0 hB0 hB1 hwA hwB hwC hB
 go_enter Tryd.func30,Tryd.ntmps30
 go_wp2_with (rw[HWA.out,HB.out,HWB.out,HWC.out];with_reducible refine wpList_load_row rfl 30 _ rfl B rfl 30 X (0,0) _ hC0 Tryd.underlying30 rfl HSX ?_)
 go_loopw [13] (fun z wr=>∃i:Nat,i≤64∧z=.int .i64 i∧wr.heap[B+1]? =some (.cells Y 30 (0,0))∧wr.heap[B+2]? =some (Ybp (Yjw f q i))∧Below B w wr∧B+3≤wr.heap.size) (fun z _=>64-(intOf z).toNat)
 case atStart=>exact⟨0,by omega,rfl,hC1,hC2,hbC,by omega⟩
 case round=>
  clear hC0 hC1 hC2 hbC hzA hzB hzC;obtain⟨i,hi64,rfl,h1,h2,hb,hz⟩:=hrel;by_cases hlt:i<64
  ·have hix:=fun w=>HIX.out w i hlt;have t0:decide ((i:Int)<64)=true:=by simp;omega
   have S:=Lib.hid (show Yjw f q (i+1)=Ybn (Yjw f q i) i (Ygy (f i) q) from rfl);have cv:=fun w=>Yo5 (f i) q w;generalize Ygy (f i) q=y at cv S;generalize f i=x at cv hix;have c2:=Yaz h2 hlt;have ff:=Ybm (i:=i) h2;generalize Yjw f q i i=y2 at c2
   have PUT:=Lib.hid (⟨Yap h1 (by simp),by rw[S.out];exact Yb9 y h2,hb.setCell (by simp) _,by simp[World.setCell];omega⟩:(wr.setCell ⟨B+2,i,none⟩ (.int .i64 y)).heap[B+1]? =some (.cells Y 30 (0,0))∧(wr.setCell ⟨B+2,i,none⟩ (.int .i64 y)).heap[B+2]? =some (Ybp (Yjw f q (i+1)))∧Below B w (wr.setCell ⟨B+2,i,none⟩ (.int .i64 y))∧B+3≤(wr.setCell ⟨B+2,i,none⟩ (.int .i64 y)).heap.size);clear h1 h2 hb
   go_wp2_with (with_reducible refine(cv _).mono ?_;rintro e w1 ⟨rfl,rfl⟩)
   go_roundw
   case rel=>exact⟨i+1,by omega,by go_num,PUT.out⟩
   case measure=>simp[intOf] <;> omega
  ·obtain rfl:i=64:=by omega
   have t0:decide ((64:Int)<64)=false:=by simp
   cases intra with
   |false=>
    obtain⟨V,hV⟩:∃V,Ya0 (Yjw f q 64)=V:=⟨_,rfl⟩;have HV:=Lib.hid hV;have h2':wr.heap[B+2]? =some (.cells V 30 (0,0)):=by rw[←hV];exact h2
    have HSV:(Tryd.prog.info? 30).map (·.size)=some V.size:=by rw[←hV];exact Yal _
    have HOV:V.all (·.oneCell')=true:=by rw[←hV];exact Yay _
    have HYV:Y.size=V.size:=by rw[←hV,HSY,Yag]
    clear hV h2
    go_wp2_with (first|(with_reducible refine wpList_load_row rfl 30 _ rfl (B+2) rfl 30 V (0,0) _ h2' Tryd.underlying30 rfl HSV ?_)|(with_reducible refine Yae rfl 30 _ _ rfl (B+1) V Y rfl rfl 30 h1 HSV HYV HOV ?_;intro w2 hh2 hg2))
    refine bodyPost_ret (results_cell_row rfl _ _ (B+1) 30 _ (0,0) _ rfl hh2 Tryd.underlying30 rfl HSV) rfl ?_;exact Ydz (Yk4 f q dc) HV.out (by rw[HB.out];exact hb.grown hg2 (by omega) (fun k hk=>by injection hk with hk;omega))
   |true=>
    have cd:=fun w=>Yps dc w;obtain⟨V,hV⟩:∃V,Ya0 (Ybn (Yjw f q 64) 0 (dcV dc))=V:=⟨_,rfl⟩;have HV:=Lib.hid hV;have HSV:(Tryd.prog.info? 30).map (·.size)=some V.size:=by rw[←hV];exact Yal _
    have HOV:V.all (·.oneCell')=true:=by rw[←hV];exact Yay _
    have HYV:Y.size=V.size:=by rw[←hV,HSY,Yag]
    have c2:=Yaz h2 (show 0<64 by omega);have ff:=Ybm (i:=0) h2;generalize dcV dc=y at cd hV;have PUT:=Lib.hid (⟨Yap h1 (by simp),by rw[←hV];exact Yb9 y h2,hb.setCell (by simp) _⟩:(wr.setCell ⟨B+2,0,none⟩ (.int .i64 y)).heap[B+1]? =some (.cells Y 30 (0,0))∧(wr.setCell ⟨B+2,0,none⟩ (.int .i64 y)).heap[B+2]? =some (.cells V 30 (0,0))∧Below B w (wr.setCell ⟨B+2,0,none⟩ (.int .i64 y)))
    generalize Yjw f q 64 0=y2 at c2;obtain⟨wD,hwD⟩:∃wD,wr.setCell ⟨B+2,0,none⟩ (.int .i64 y)=wD:=⟨_,rfl⟩;have hzD:wD.heap.size=wr.heap.size:=by rw[←hwD];simp[World.setCell]
    rw[hwD] at PUT;obtain⟨k1,k2,k3⟩:=PUT.out;have HWD:=Lib.hid hwD;clear hV h2 h1 hwD PUT
    go_wp2_with (first|(with_reducible refine(cd _).mono ?_;rintro e w1 ⟨rfl,rfl⟩)|(rw[HWD.out];with_reducible refine wpList_load_row rfl 30 _ rfl (B+2) rfl 30 V (0,0) _ k2 Tryd.underlying30 rfl HSV ?_)|(with_reducible refine Yae rfl 30 _ _ rfl (B+1) V Y rfl rfl 30 k1 HSV HYV HOV ?_;intro w2 hh2 hg2))
    refine bodyPost_ret (results_cell_row rfl _ _ (B+1) 30 _ (0,0) _ rfl hh2 Tryd.underlying30 rfl HSV) rfl ?_;exact Ydz (Yk3 f q dc) HV.out (by rw[HB.out];exact k3.grown hg2 (by omega) (fun k hk=>by injection hk with hk;omega))
set_option maxRecDepth 100000 in
set_option maxHeartbeats 2000000 in
theorem Ynk (f:Nat→Int)(q:Int)(intra:Bool)(dc:Int)(w:World):Calls Tryd.prog 23 #[.agg (Ya0 f),.int .i64 q,.bool intra,.int .i64 dc] w (Yax (Yiz f q intra dc) w):=by
 obtain⟨B,hB⟩:∃B,w.heap.size=B:=⟨_,rfl⟩;obtain⟨X,hX⟩:∃X,Ya0 f=X:=⟨_,rfl⟩;obtain⟨Y,hY⟩:∃Y,Ya0 (fun _=>0)=Y:=⟨_,rfl⟩;have hz0:∀w,(zeroValue 30).run Tryd.prog w=.ok (.agg Y) w:=by rw[←hY];exact Ya6
 have HSY:Y.size=64:=by rw[←hY];exact Yag _
 obtain⟨wA,hwA⟩:∃wA,w.alloc (.cells X 30 (0,0))=wA:=⟨_,rfl⟩;obtain⟨wB,hwB⟩:∃wB,wA.alloc (.cells Y 30 (0,0))=wB:=⟨_,rfl⟩;obtain⟨wC,hwC⟩:∃wC,wB.alloc (.cells Y 30 (0,0))=wC:=⟨_,rfl⟩;have hzA:wA.heap.size=B+1:=by rw[←hwA,←hB];simp
 have hzB:wB.heap.size=B+2:=by rw[←hwB];simp;omega
 have hzC:wC.heap.size=B+3:=by rw[←hwC];simp;omega
 have hA0:wA.heap[B]? =some (Ybp f):=by rw[←hwA,←hB,←hX];exact heap_alloc_new w _
 have hB0:wB.heap[B]? =some (Ybp f):=by rw[←hwB];exact Yai hA0
 have hB1:wB.heap[B+1]? =some (.cells Y 30 (0,0)):=by rw[←hwB,←hzA];exact heap_alloc_new wA _
 have hC0:wC.heap[B]? =some (Ybp f):=by rw[←hwC];exact Yai hB0
 have hC1:wC.heap[B+1]? =some (.cells Y 30 (0,0)):=by rw[←hwC];exact Yai hB1
 have hC2:wC.heap[B+2]? =some (Ybp (Yfn f q intra dc 0)):=by
  rw[←hwC,←hzB];refine(heap_alloc_new wB _).trans ?_;rw[←hY]
  rfl
 have hbC:Below B w wC:=by
  rw[←hwC,←hwB,←hwA,←hB];exact(((Below.refl _ w).alloc (Nat.le_refl _) _).alloc (by simp) _).alloc (by simp;omega) _
 rw[hX];have HY:=Lib.hid hY;have HWA:=Lib.hid hwA;have HWB:=Lib.hid hwB;have HWC:=Lib.hid hwC;have HB:=Lib.hid hB;clear hX hY hA0 hB0 hB1 hwA hwB hwC hB
 go_enter Tryd.func23,Tryd.ntmps23
 go_wp2_with fail
 rw[HWA.out,HB.out,HWB.out,HWC.out]
 go_loopw [10] (fun z wr=>∃i:Nat,i≤64∧z=.int .i64 i∧wr.heap[B]? =some (Ybp f)∧wr.heap[B+1]? =some (.cells Y 30 (0,0))∧wr.heap[B+2]? =some (Ybp (Yfn f q intra dc i))∧Below B w wr∧B+3≤wr.heap.size) (fun z _=>64-(intOf z).toNat)
 case atStart=>exact⟨0,by omega,rfl,hC0,hC1,hC2,hbC,by omega⟩
 case round=>
  clear hC0 hC1 hC2 hbC hzA hzB hzC;obtain⟨i,hi64,rfl,h0,h1,h2,hb,hz⟩:=hrel;by_cases hlt:i<64
  ·have t0:decide ((i:Int)<64)=true:=by simp;omega
   by_cases e0:i=0
   ·subst e0;cases intra with
    |false=>
     have S:=Lib.hid (show Yfn f q false dc (0+1)=Ybn (Yfn f q false dc 0) 0 (Ygy (f 0) q) from rfl);have c0:=Yaz h0 hlt;have cv:=fun w=>Ygz (f 0) q w;generalize Ygy (f 0) q=y at cv S;generalize f 0=x at cv c0;have c2:=Yaz h2 hlt;have ff:=Ybm (i:=0) h2
     have PUT:=Lib.hid (⟨Yap h0 (by simp),Yap h1 (by simp),by rw[S.out];exact Yb9 y h2,hb.setCell (by simp) _,by simp[World.setCell];omega⟩:(wr.setCell ⟨B+2,0,none⟩ (.int .i64 y)).heap[B]? =some (Ybp f)∧(wr.setCell ⟨B+2,0,none⟩ (.int .i64 y)).heap[B+1]? =some (.cells Y 30 (0,0))∧(wr.setCell ⟨B+2,0,none⟩ (.int .i64 y)).heap[B+2]? =some (Ybp (Yfn f q false dc (0+1)))∧Below B w (wr.setCell ⟨B+2,0,none⟩ (.int .i64 y))∧B+3≤(wr.setCell ⟨B+2,0,none⟩ (.int .i64 y)).heap.size)
     generalize Yfn f q false dc 0 0=y2 at c2;clear h0 h1 h2 hb
     go_wp2_with (with_reducible refine(cv _).mono ?_;rintro e w1 ⟨rfl,rfl⟩)
     go_roundw
     case rel=>exact⟨0+1,by omega,by go_num,PUT.out⟩
     case measure=>simp[intOf] <;> omega
    |true=>
     have S:=Lib.hid (show Yfn f q true dc (0+1)=Ybn (Yfn f q true dc 0) 0 (dcV dc) from rfl);have c0:=Yaz h0 hlt;have cv:=fun w=>Ygz (f 0) q w;have cd:=fun w=>Ypt dc w;generalize dcV dc=z at cd S;generalize Ygy (f 0) q=y at cv;generalize f 0=x at cv c0;have c2:=Yaz h2 hlt;have ff:=Ybm (i:=0) h2
     have hx1:(wr.setCell ⟨B+2,0,none⟩ (.int .i64 y)).heap[B+2]? =some (Ybp (Ybn (Yfn f q true dc 0) 0 y)):=Yb9 y h2;have c3:=Yaz hx1 (show 0<64 by omega);have f3:=Ybm (i:=0) hx1;rw[show Ybn (Yfn f q true dc 0) 0 y 0=y from rfl] at c3;have S2:∀g:Nat→Int,Ybn (Ybn g 0 y) 0 z=Ybn g 0 z:=fun g=>funext fun k=>by unfold Ybn;split <;> rfl
     have PUT:=Lib.hid (⟨Yap (Yap h0 (by simp)) (by simp),Yap (Yap h1 (by simp)) (by simp),(by rw[S.out,←S2];exact Yb9 z hx1),(hb.setCell (by simp) _).setCell (by simp) _,by simp[World.setCell];omega⟩:((wr.setCell ⟨B+2,0,none⟩ (.int .i64 y)).setCell ⟨B+2,0,none⟩ (.int .i64 z)).heap[B]? =some (Ybp f)∧((wr.setCell ⟨B+2,0,none⟩ (.int .i64 y)).setCell ⟨B+2,0,none⟩ (.int .i64 z)).heap[B+1]? =some (.cells Y 30 (0,0))∧((wr.setCell ⟨B+2,0,none⟩ (.int .i64 y)).setCell ⟨B+2,0,none⟩ (.int .i64 z)).heap[B+2]? =some (Ybp (Yfn f q true dc (0+1)))∧Below B w ((wr.setCell ⟨B+2,0,none⟩ (.int .i64 y)).setCell ⟨B+2,0,none⟩ (.int .i64 z))∧B+3≤((wr.setCell ⟨B+2,0,none⟩ (.int .i64 y)).setCell ⟨B+2,0,none⟩ (.int .i64 z)).heap.size)
     generalize Yfn f q true dc 0 0=y2 at c2;clear hx1;clear h0 h1 h2 hb
     go_wp2_with (first|(with_reducible refine(cv _).mono ?_;rintro e w1 ⟨rfl,rfl⟩)|(with_reducible refine(cd _).mono ?_;rintro e w1 ⟨rfl,rfl⟩))
     go_roundw
     case rel=>exact⟨0+1,by omega,by go_num,PUT.out⟩
     case measure=>simp[intOf] <;> omega
   ·have t1:((i:Int)==0)=false:=by simpa using e0
    have S:=Lib.hid (show Yfn f q intra dc (i+1)=Ybn (Yfn f q intra dc i) i (Ygy (f i) q) from by rw[show Ygy (f i) q=Yiz f q intra dc i by unfold Yiz;rw[if_neg (by simp[e0])]];rfl);have c0:=Yaz h0 hlt;have cv:=fun w=>Ygz (f i) q w;generalize Ygy (f i) q=y at cv S;generalize f i=x at cv c0;have c2:=Yaz h2 hlt;have ff:=Ybm (i:=i) h2
    have PUT:=Lib.hid (⟨Yap h0 (by simp),Yap h1 (by simp),by rw[S.out];exact Yb9 y h2,hb.setCell (by simp) _,by simp[World.setCell];omega⟩:(wr.setCell ⟨B+2,i,none⟩ (.int .i64 y)).heap[B]? =some (Ybp f)∧(wr.setCell ⟨B+2,i,none⟩ (.int .i64 y)).heap[B+1]? =some (.cells Y 30 (0,0))∧(wr.setCell ⟨B+2,i,none⟩ (.int .i64 y)).heap[B+2]? =some (Ybp (Yfn f q intra dc (i+1)))∧Below B w (wr.setCell ⟨B+2,i,none⟩ (.int .i64 y))∧B+3≤(wr.setCell ⟨B+2,i,none⟩ (.int .i64 y)).heap.size)
    generalize Yfn f q intra dc i i=y2 at c2;clear h0 h1 h2 hb
    go_wp2_with (with_reducible refine(cv _).mono ?_;rintro e w1 ⟨rfl,rfl⟩)
    go_roundw
    case rel=>exact⟨i+1,by omega,by go_num,PUT.out⟩
    case measure=>simp[intOf] <;> omega
  ·obtain rfl:i=64:=by omega
   have t0:decide ((64:Int)<64)=false:=by simp
   obtain⟨V,hV⟩:∃V,Ya0 (Yfn f q intra dc 64)=V:=⟨_,rfl⟩;have HV:=Lib.hid hV;have h2':wr.heap[B+2]? =some (.cells V 30 (0,0)):=by rw[←hV];exact h2
   have HSV:(Tryd.prog.info? 30).map (·.size)=some V.size:=by rw[←hV];exact Yal _
   have HOV:V.all (·.oneCell')=true:=by rw[←hV];exact Yay _
   have HYV:Y.size=V.size:=by rw[←hV,HSY,Yag]
   clear hV h2 h0
   go_wp2_with (first|(with_reducible refine wpList_load_row rfl 30 _ rfl (B+2) rfl 30 V (0,0) _ h2' Tryd.underlying30 rfl HSV ?_)|(with_reducible refine Yae rfl 30 _ _ rfl (B+1) V Y rfl rfl 30 h1 HSV HYV HOV ?_;intro w2 hh2 hg2))
   refine bodyPost_ret (results_cell_row rfl _ _ (B+1) 30 _ (0,0) _ rfl hh2 Tryd.underlying30 rfl HSV) rfl ?_;exact Ydz (Yok f q intra dc) HV.out (by rw[HB.out];exact hb.grown hg2 (by omega) (fun k hk=>by injection hk with hk;omega))
end Go.Proofs.YtkgabfmjfhljdaaDoor