/- No condition. -/
import Derived.Test.YtdnjefldijjgdaaDoorRebuildSkipsMg
import Derived.Test.YtdnjefldijjgdaaDoorRebuildSkipsMl
import Derived.WalkMore
import Derived.IntWalk
namespace Go.Proofs.YtdnjefldijjgdaaDoor
open Go.RowKit Go.Lib
def Yj6:List Nat:=[0,1,8,16,9,2,3,10,17,24,32,25,18,11,4,5,12,19,26,33,40,48,41,34,27,20,13,6,7,14,21,28,35,42,49,56,57,50,43,36,29,22,15,23,30,37,44,51,58,59,52,45,38,31,39,46,53,60,61,54,47,55,62,63]
def Yci (i:Nat):Nat:=Yj6[i]?.getD 0
def Yh2 (p:Nat):Nat:=Yj6.idxOf p
theorem Yh4:∀i,i<64→Yci i<64∧Yh2 (Yci i)=i:=by decide +kernel
theorem Yh3:∀p,p<64→Yh2 p<64∧Yci (Yh2 p)=p:=by decide +kernel
def Yga (i:Nat):Int:=(Yci i:Nat)
def Ym2 (f:Nat→Int)(p:Nat):Int:=f (Yh2 p)
def Ym3 (f:Nat→Int):Nat→(Nat→Int)
 |0=>fun _=>0
 |k+1=>Ycb (Ym3 f k) (Yci k) (f k)
theorem Ym4 (f:Nat→Int):∀k,k≤64→∀p,p<64→Ym3 f k p=if Yh2 p<k then f (Yh2 p) else 0
 |0,_,p,_=>rfl
 |k+1,hk,p,hp=>by
  unfold Ym3 Ycb;have ih:=Ym4 f k (by omega) p hp;have h1:=Yh4 k (by omega);have h2:=Yh3 p hp;by_cases e:p=Yci k
  ·subst e;rw[if_pos rfl,h1.2,if_pos (by omega)]
  ·rw[if_neg e,ih];have hne:Yh2 p≠k:=fun h=>e (by rw[←h];exact h2.2.symm);by_cases hlt:Yh2 p<k
   ·rw[if_pos hlt,if_pos (by omega)]
   ·rw[if_neg hlt,if_neg (by omega)]
theorem Ypb (f:Nat→Int):∀p,p<64→Ym3 f 64 p=Ym2 f p:=by
 intro p hp;rw[Ym4 f 64 (Nat.le_refl _) p hp,if_pos (Yh3 p hp).1]
 rfl
def Ybg (w:World):Prop:=∀i,i<64→w.cell? ⟨2,i,none⟩=some (.int .i64 (Yci i:Nat))
theorem Ybg.lt {w:World}(h:Ybg w):2<w.heap.size:=World.block_lt_of_cell? w ⟨2,0,none⟩ (h 0 (by decide))
theorem Ybg.below {w w':World}(h:Ybg w)(hb:Below w.heap.size w w'):Ybg w':=fun i hi=>(hb.cell (p:=⟨2,i,none⟩) h.lt).trans (h i hi)
theorem Yqv:∀w,(isAgg 22).run Tryd.prog w=.ok true w:=fun _=>by kernel_rfl
theorem Yl1:∀w,(Go.sizeOf 22).run Tryd.prog w=.ok 64 w:=fun _=>by kernel_rfl
theorem Yja (w:World)(hp:Ybg w):(loadVar 22 ⟨2,0,none⟩).run Tryd.prog w=.ok (.agg (Yat Yga)) w:=by
 have hl:=run_loadCells_list (P:=Tryd.prog) w ⟨2,0,none⟩ (Ykj Yga) (fun j v hj=>by
  have hj64:j<64:=by
   have:=(List.getElem?_eq_some_iff.1 hj).1;rwa [Ycq] at this
  rw[Addr.add_lit,Nat.zero_add,hp j hj64];rw[Ye5 _ hj64] at hj;exact hj)
 rw[Ycq] at hl;unfold loadVar;simp only[Sem.run_bind,Yqv,Result.andThen_ok,if_true,Yl1,hl,Sem.run_pure]
 rfl
theorem Yhc {ops:Array Oper}{rest:List Oper}{a:Act}{w:World}{Q:Exit→Act→World→Prop}{pos:String}{ty:TypeId}{after:Array Edge}{d:Option Tmp}(hp:Ybg w)(h:wpList Tryd.prog ops Q rest (a.put d (.agg (Yat Yga))) w):
  wpList Tryd.prog ops Q ({dst:=d,op:=Op.load 22 (Operand.global 2),type:=ty,pos:=pos,after:=after,guard:=none}::rest) a w:=
 wpList_plain rfl fun _ hK=>by
  unfold Oper.wp;rw[Ya7 (ev:=a.eval) (ty:=22) (x:=.global 2) (ad:=⟨2,0,none⟩) rfl rfl (Yja w hp)];exact hK _ _ h
set_option maxRecDepth 100000 in
set_option maxHeartbeats 2000000 in
theorem Yji (f:Nat→Int)(w:World)(hp:Ybg w):Calls Tryd.prog 61 #[.agg (Yat f)] w (Yaz (Ym2 f) w):=by
 obtain⟨B,hB⟩:∃B,w.heap.size=B:=⟨_,rfl⟩;obtain⟨X,hX⟩:∃X,Yat f=X:=⟨_,rfl⟩;obtain⟨Y,hY⟩:∃Y,Yat (fun _=>0)=Y:=⟨_,rfl⟩;obtain⟨Z,hZ⟩:∃Z,Yat Yga=Z:=⟨_,rfl⟩;have hidx:=fun(w:World) (i:Nat) (h:i<64)=>Ye6 Yga h w;have hz0:∀w,(zeroValue 22).run Tryd.prog w=.ok (.agg Y) w:=by rw[←hY];exact Ybr
 have HSY:Y.size=64:=by rw[←hY];exact Yag _
 obtain⟨wA,hwA⟩:∃wA,w.alloc (.cells X 22 (0,0))=wA:=⟨_,rfl⟩;obtain⟨wB,hwB⟩:∃wB,wA.alloc (.cells Y 22 (0,0))=wB:=⟨_,rfl⟩;obtain⟨wC,hwC⟩:∃wC,wB.alloc (.cells Y 22 (0,0))=wC:=⟨_,rfl⟩;have hzA:wA.heap.size=B+1:=by rw[←hwA,←hB];simp
 have hzB:wB.heap.size=B+2:=by rw[←hwB];simp;omega
 have hzC:wC.heap.size=B+3:=by rw[←hwC];simp;omega
 have hA0:wA.heap[B]? =some (Yet f):=by rw[←hwA,←hB,←hX];exact heap_alloc_new w _
 have hB0:wB.heap[B]? =some (Yet f):=by rw[←hwB];exact Yak hA0
 have hB1:wB.heap[B+1]? =some (.cells Y 22 (0,0)):=by rw[←hwB,←hzA];exact heap_alloc_new wA _
 have hC0:wC.heap[B]? =some (Yet f):=by rw[←hwC];exact Yak hB0
 have hC1:wC.heap[B+1]? =some (.cells Y 22 (0,0)):=by rw[←hwC];exact Yak hB1
 have hC2:wC.heap[B+2]? =some (Yet (Ym3 f 0)):=by
  rw[←hwC,←hzB];refine(heap_alloc_new wB _).trans ?_;rw[←hY]
  rfl
 have hbC:Below B w wC:=by
  rw[←hwC,←hwB,←hwA,←hB];exact(((Below.refl _ w).alloc (Nat.le_refl _) _).alloc (by simp) _).alloc (by simp;omega) _
 have hpC:Ybg wC:=hp.below (by rw[hB];exact hbC);rw[hX];rw[hZ] at hidx;have HIX:=Lib.hid hidx;have HZ:=Lib.hid hZ;have HY:=Lib.hid hY;have HWA:=Lib.hid hwA;have HWB:=Lib.hid hwB;have HWC:=Lib.hid hwC;have HB:=Lib.hid hB;clear hX hY hZ hidx hA0 hB0 hB1 hwA hwB hwC hB hp
 go_enter Tryd.func61,Tryd.ntmps61
 go_wp2_with (rw[HWA.out,HB.out,HWB.out,HWC.out];with_reducible refine Yhc hpC ?_;rw[HZ.out])
 go_loopw [7] (fun z wr=>∃i:Nat,i≤64∧z=.int .i64 i∧wr.heap[B]? =some (Yet f)∧wr.heap[B+1]? =some (.cells Y 22 (0,0))∧wr.heap[B+2]? =some (Yet (Ym3 f i))∧Below B w wr∧B+3≤wr.heap.size) (fun z _=>64-(intOf z).toNat)
 case atStart=>exact⟨0,by omega,rfl,hC0,hC1,hC2,hbC,by omega⟩
 case round=>
  clear hC0 hC1 hC2 hbC hpC hzA hzB hzC;obtain⟨i,hi64,rfl,h0,h1,h2,hb,hz⟩:=hrel;by_cases hlt:i<64
  ·have hix:=fun w=>HIX.out w i hlt;have hpl:=(Yh4 i hlt).1;have hpf:Yga i=((Yci i:Nat):Int):=rfl;rw[hpf] at hix;have S:=Lib.hid (show Ym3 f (i+1)=Ycb (Ym3 f i) (Yci i) (f i) from rfl);obtain⟨p,hpp⟩:∃p,Yci i=p:=⟨_,rfl⟩;rw[hpp] at hix hpl S;have c0:=Yda h0 hlt;have c2:=Yda h2 hpl;have ff:=Ydx (i:=p) h2;generalize f i=y at c0 S;generalize Ym3 f i p=y2 at c2
   have PUT:=Lib.hid (⟨Yaw h0 (by simp),Yaw h1 (by simp),by rw[S.out];exact Ye7 y h2,hb.setCell (by simp) _,by simp[World.setCell];omega⟩:(wr.setCell ⟨B+2,p,none⟩ (.int .i64 y)).heap[B]? =some (Yet f)∧(wr.setCell ⟨B+2,p,none⟩ (.int .i64 y)).heap[B+1]? =some (.cells Y 22 (0,0))∧(wr.setCell ⟨B+2,p,none⟩ (.int .i64 y)).heap[B+2]? =some (Yet (Ym3 f (i+1)))∧Below B w (wr.setCell ⟨B+2,p,none⟩ (.int .i64 y))∧B+3≤(wr.setCell ⟨B+2,p,none⟩ (.int .i64 y)).heap.size)
   clear h0 h1 h2 hb hpf hpp
   go_wp2
   go_roundw
   case rel=>exact⟨i+1,by omega,by go_num,PUT.out⟩
   case measure=>simp[intOf];omega
  ·obtain rfl:i=64:=by omega
   obtain⟨V,hV⟩:∃V,Yat (Ym3 f 64)=V:=⟨_,rfl⟩;have HV:=Lib.hid hV;have h2':wr.heap[B+2]? =some (.cells V 22 (0,0)):=by rw[←hV];exact h2
   have HSV:(Tryd.prog.info? 22).map (·.size)=some V.size:=by rw[←hV];exact Yan _
   have HOV:V.all (·.oneCell')=true:=by rw[←hV];exact Ya0 _
   have HYV:Y.size=V.size:=by rw[←hV,HSY,Yag]
   clear hV h2 h0
   go_wp2_with (first|(with_reducible refine wpList_load_row rfl 22 _ rfl (B+2) rfl 22 V (0,0) _ h2' Tryd.underlying22 rfl HSV ?_)|(with_reducible refine Yac rfl 22 _ _ rfl (B+1) V Y rfl rfl 22 h1 HSV HYV HOV ?_;intro w2 hh2 hg2))
   refine bodyPost_ret (results_cell_row rfl _ _ (B+1) 22 _ (0,0) _ rfl hh2 Tryd.underlying22 rfl HSV) rfl ?_;exact Yf4 (Ypb f) HV.out (by rw[HB.out];exact hb.grown hg2 (by omega) (fun k hk=>by injection hk with hk;omega))
end Go.Proofs.YtdnjefldijjgdaaDoor