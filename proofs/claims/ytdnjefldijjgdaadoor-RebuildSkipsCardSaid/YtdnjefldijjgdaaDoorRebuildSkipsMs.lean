/- No condition. -/
import Derived.Test.YtdnjefldijjgdaaDoorRebuildSkipsMg
import Derived.Test.YtdnjefldijjgdaaDoorRebuildSkipsMn
import Derived.WalkMore
namespace Go.Proofs.YtdnjefldijjgdaaDoor
open Go.RowKit Go.Lib
def Yqr (f:Nat→Int)(q:Int)(intra:Bool)(dc:Int)(i:Nat):Int:=if i=0∧intra=true then dcV dc else Yn9 (f i) q
def Ykg (f:Nat→Int)(q:Int):Nat→(Nat→Int)
 |0=>fun _=>0
 |k+1=>Ycb (Ykg f q k) k (Yn9 (f k) q)
theorem Yjl (f:Nat→Int)(q:Int):∀k p,Ykg f q k p=if p<k then Yn9 (f p) q else 0
 |0,p=>rfl
 |k+1,p=>by
  unfold Ykg Ycb;by_cases e:p=k
  ·subst e;rw[if_pos rfl,if_pos (by omega)]
  ·rw[if_neg e,Yjl f q k p];by_cases hlt:p<k
   ·rw[if_pos hlt,if_pos (by omega)]
   ·rw[if_neg hlt,if_neg (by omega)]
theorem Ylr (f:Nat→Int)(q dc:Int):∀p,p<64→Ykg f q 64 p=Yqr f q false dc p:=by
 intro p hp;rw[Yjl,if_pos hp];unfold Yqr;rw[if_neg (by simp)]
theorem Ylq (f:Nat→Int)(q dc:Int):∀p,p<64→Ycb (Ykg f q 64) 0 (dcV dc) p=Yqr f q true dc p:=by
 intro p hp;unfold Ycb Yqr;by_cases e:p=0
 ·rw[if_pos e,if_pos ⟨e,rfl⟩]
 ·rw[if_neg e,if_neg (by simp[e]),Yjl,if_pos hp]
set_option maxRecDepth 100000 in
set_option maxHeartbeats 2000000 in
theorem Yoo (f:Nat→Int)(q:Int)(intra:Bool)(dc:Int)(w:World):Calls Tryd.prog 41 #[.agg (Yat f),.int .i64 q,.bool intra,.int .i64 dc] w (Yaz (Yqr f q intra dc) w):=by
 obtain⟨B,hB⟩:∃B,w.heap.size=B:=⟨_,rfl⟩;obtain⟨X,hX⟩:∃X,Yat f=X:=⟨_,rfl⟩;obtain⟨Y,hY⟩:∃Y,Yat (fun _=>0)=Y:=⟨_,rfl⟩;have hidx:=fun(w:World) (i:Nat) (h:i<64)=>Ye6 f h w;have hz0:∀w,(zeroValue 22).run Tryd.prog w=.ok (.agg Y) w:=by rw[←hY];exact Ybr
 have HSY:Y.size=64:=by rw[←hY];exact Yag _
 have HSX:(Tryd.prog.info? 22).map (·.size)=some X.size:=by rw[←hX];exact Yan _
 obtain⟨wA,hwA⟩:∃wA,w.alloc (.cells X 22 (0,0))=wA:=⟨_,rfl⟩;obtain⟨wB,hwB⟩:∃wB,wA.alloc (.cells Y 22 (0,0))=wB:=⟨_,rfl⟩;obtain⟨wC,hwC⟩:∃wC,wB.alloc (.cells Y 22 (0,0))=wC:=⟨_,rfl⟩;have hzA:wA.heap.size=B+1:=by rw[←hwA,←hB];simp
 have hzB:wB.heap.size=B+2:=by rw[←hwB];simp;omega
 have hzC:wC.heap.size=B+3:=by rw[←hwC];simp;omega
 have hA0:wA.heap[B]? =some (.cells X 22 (0,0)):=by rw[←hwA,←hB];exact heap_alloc_new w _
 have hB0:wB.heap[B]? =some (.cells X 22 (0,0)):=by rw[←hwB];exact Yak hA0
 have hB1:wB.heap[B+1]? =some (.cells Y 22 (0,0)):=by rw[←hwB,←hzA];exact heap_alloc_new wA _
 have hC0:wC.heap[B]? =some (.cells X 22 (0,0)):=by rw[←hwC];exact Yak hB0
 have hC1:wC.heap[B+1]? =some (.cells Y 22 (0,0)):=by rw[←hwC];exact Yak hB1
 have hC2:wC.heap[B+2]? =some (Yet (Ykg f q 0)):=by
  rw[←hwC,←hzB];refine(heap_alloc_new wB _).trans ?_;rw[←hY]
  rfl
 have hbC:Below B w wC:=by
  rw[←hwC,←hwB,←hwA,←hB];exact(((Below.refl _ w).alloc (Nat.le_refl _) _).alloc (by simp) _).alloc (by simp;omega) _
 rw[hX];rw[hX] at hidx;have HIX:=Lib.hid hidx;have HY:=Lib.hid hY;have HWA:=Lib.hid hwA;have HWB:=Lib.hid hwB;have HWC:=Lib.hid hwC;have HB:=Lib.hid hB;clear hX hY hidx hA0 hB0 hB1 hwA hwB hwC hB
 go_enter Tryd.func41,Tryd.ntmps41
 go_wp2_with (rw[HWA.out,HB.out,HWB.out,HWC.out];with_reducible refine wpList_load_row rfl 22 _ rfl B rfl 22 X (0,0) _ hC0 Tryd.underlying22 rfl HSX ?_)
 go_loopw [13] (fun z wr=>∃i:Nat,i≤64∧z=.int .i64 i∧wr.heap[B+1]? =some (.cells Y 22 (0,0))∧wr.heap[B+2]? =some (Yet (Ykg f q i))∧Below B w wr∧B+3≤wr.heap.size) (fun z _=>64-(intOf z).toNat)
 case atStart=>exact⟨0,by omega,rfl,hC1,hC2,hbC,by omega⟩
 case round=>
  clear hC0 hC1 hC2 hbC hzA hzB hzC;obtain⟨i,hi64,rfl,h1,h2,hb,hz⟩:=hrel;by_cases hlt:i<64
  ·have hix:=fun w=>HIX.out w i hlt;have t0:decide ((i:Int)<64)=true:=by simp;omega
   have S:=Lib.hid (show Ykg f q (i+1)=Ycb (Ykg f q i) i (Yn9 (f i) q) from rfl);have cv:=fun w=>Yqi (f i) q w;generalize Yn9 (f i) q=y at cv S;generalize f i=x at cv hix;have c2:=Yda h2 hlt;have ff:=Ydx (i:=i) h2;generalize Ykg f q i i=y2 at c2
   have PUT:=Lib.hid (⟨Yaw h1 (by simp),by rw[S.out];exact Ye7 y h2,hb.setCell (by simp) _,by simp[World.setCell];omega⟩:(wr.setCell ⟨B+2,i,none⟩ (.int .i64 y)).heap[B+1]? =some (.cells Y 22 (0,0))∧(wr.setCell ⟨B+2,i,none⟩ (.int .i64 y)).heap[B+2]? =some (Yet (Ykg f q (i+1)))∧Below B w (wr.setCell ⟨B+2,i,none⟩ (.int .i64 y))∧B+3≤(wr.setCell ⟨B+2,i,none⟩ (.int .i64 y)).heap.size);clear h1 h2 hb
   go_wp2_with (with_reducible refine(cv _).mono ?_;rintro e w1 ⟨rfl,rfl⟩)
   go_roundw
   case rel=>exact⟨i+1,by omega,by go_num,PUT.out⟩
   case measure=>simp[intOf] <;> omega
  ·obtain rfl:i=64:=by omega
   have t0:decide ((64:Int)<64)=false:=by simp
   cases intra with
   |false=>
    obtain⟨V,hV⟩:∃V,Yat (Ykg f q 64)=V:=⟨_,rfl⟩;have HV:=Lib.hid hV;have h2':wr.heap[B+2]? =some (.cells V 22 (0,0)):=by rw[←hV];exact h2
    have HSV:(Tryd.prog.info? 22).map (·.size)=some V.size:=by rw[←hV];exact Yan _
    have HOV:V.all (·.oneCell')=true:=by rw[←hV];exact Ya0 _
    have HYV:Y.size=V.size:=by rw[←hV,HSY,Yag]
    clear hV h2
    go_wp2_with (first|(with_reducible refine wpList_load_row rfl 22 _ rfl (B+2) rfl 22 V (0,0) _ h2' Tryd.underlying22 rfl HSV ?_)|(with_reducible refine Yac rfl 22 _ _ rfl (B+1) V Y rfl rfl 22 h1 HSV HYV HOV ?_;intro w2 hh2 hg2))
    refine bodyPost_ret (results_cell_row rfl _ _ (B+1) 22 _ (0,0) _ rfl hh2 Tryd.underlying22 rfl HSV) rfl ?_;exact Yf4 (Ylr f q dc) HV.out (by rw[HB.out];exact hb.grown hg2 (by omega) (fun k hk=>by injection hk with hk;omega))
   |true=>
    have cd:=fun w=>Yq6 dc w;obtain⟨V,hV⟩:∃V,Yat (Ycb (Ykg f q 64) 0 (dcV dc))=V:=⟨_,rfl⟩;have HV:=Lib.hid hV;have HSV:(Tryd.prog.info? 22).map (·.size)=some V.size:=by rw[←hV];exact Yan _
    have HOV:V.all (·.oneCell')=true:=by rw[←hV];exact Ya0 _
    have HYV:Y.size=V.size:=by rw[←hV,HSY,Yag]
    have c2:=Yda h2 (show 0<64 by omega);have ff:=Ydx (i:=0) h2;generalize dcV dc=y at cd hV;have PUT:=Lib.hid (⟨Yaw h1 (by simp),by rw[←hV];exact Ye7 y h2,hb.setCell (by simp) _⟩:(wr.setCell ⟨B+2,0,none⟩ (.int .i64 y)).heap[B+1]? =some (.cells Y 22 (0,0))∧(wr.setCell ⟨B+2,0,none⟩ (.int .i64 y)).heap[B+2]? =some (.cells V 22 (0,0))∧Below B w (wr.setCell ⟨B+2,0,none⟩ (.int .i64 y)))
    generalize Ykg f q 64 0=y2 at c2;obtain⟨wD,hwD⟩:∃wD,wr.setCell ⟨B+2,0,none⟩ (.int .i64 y)=wD:=⟨_,rfl⟩;have hzD:wD.heap.size=wr.heap.size:=by rw[←hwD];simp[World.setCell]
    rw[hwD] at PUT;obtain⟨k1,k2,k3⟩:=PUT.out;have HWD:=Lib.hid hwD;clear hV h2 h1 hwD PUT
    go_wp2_with (first|(with_reducible refine(cd _).mono ?_;rintro e w1 ⟨rfl,rfl⟩)|(rw[HWD.out];with_reducible refine wpList_load_row rfl 22 _ rfl (B+2) rfl 22 V (0,0) _ k2 Tryd.underlying22 rfl HSV ?_)|(with_reducible refine Yac rfl 22 _ _ rfl (B+1) V Y rfl rfl 22 k1 HSV HYV HOV ?_;intro w2 hh2 hg2))
    refine bodyPost_ret (results_cell_row rfl _ _ (B+1) 22 _ (0,0) _ rfl hh2 Tryd.underlying22 rfl HSV) rfl ?_;exact Yf4 (Ylq f q dc) HV.out (by rw[HB.out];exact k3.grown hg2 (by omega) (fun k hk=>by injection hk with hk;omega))
end Go.Proofs.YtdnjefldijjgdaaDoor