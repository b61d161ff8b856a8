/- No condition. -/
import Derived.Test.YtnamlooifcpoaaaGreatDoorScreensStillMf
import Derived.Test.YtnamlooifcpoaaaGreatDoorScreensStillMl
import Derived.WalkMore
import Derived.IntWalk
namespace Go.Proofs.YtnamlooifcpoaaaGreatDoor
open Go.RowKit Go.Lib
def Yo4:List Nat:=[0,1,8,16,9,2,3,10,17,24,32,25,18,11,4,5,12,19,26,33,40,48,41,34,27,20,13,6,7,14,21,28,35,42,49,56,57,50,43,36,29,22,15,23,30,37,44,51,58,59,52,45,38,31,39,46,53,60,61,54,47,55,62,63]
def Ydp (i:Nat):Nat:=Yo4[i]?.getD 0
def Yl3 (p:Nat):Nat:=Yo4.idxOf p
theorem Yl6:∀i,i<64→Ydp i<64∧Yl3 (Ydp i)=i:=by decide +kernel
theorem Yl4:∀p,p<64→Yl3 p<64∧Ydp (Yl3 p)=p:=by decide +kernel
def Yja (i:Nat):Int:=(Ydp i:Nat)
def Ys1 (f:Nat→Int)(p:Nat):Int:=f (Yl3 p)
def Ys2 (f:Nat→Int):Nat→(Nat→Int)
 |0=>fun _=>0
 |k+1=>Ycw (Ys2 f k) (Ydp k) (f k)
theorem Ys3 (f:Nat→Int):∀k,k≤64→∀p,p<64→Ys2 f k p=if Yl3 p<k then f (Yl3 p) else 0
 |0,_,p,_=>rfl
 |k+1,hk,p,hp=>by
  unfold Ys2 Ycw;have ih:=Ys3 f k (by omega) p hp;have h1:=Yl6 k (by omega);have h2:=Yl4 p hp;by_cases e:p=Ydp k
  ·subst e;rw[if_pos rfl,h1.2,if_pos (by omega)]
  ·rw[if_neg e,ih];have hne:Yl3 p≠k:=fun h=>e (by rw[←h];exact h2.2.symm);by_cases hlt:Yl3 p<k
   ·rw[if_pos hlt,if_pos (by omega)]
   ·rw[if_neg hlt,if_neg (by omega)]
theorem Ywa (f:Nat→Int):∀p,p<64→Ys2 f 64 p=Ys1 f p:=by
 intro p hp;rw[Ys3 f 64 (Nat.le_refl _) p hp,if_pos (Yl4 p hp).1]
 rfl
def Ybt (w:World):Prop:=∀i,i<64→w.cell? ⟨3,i,none⟩=some (.int .i64 (Ydp i:Nat))
theorem Ybt.lt {w:World}(h:Ybt w):3<w.heap.size:=World.block_lt_of_cell? w ⟨3,0,none⟩ (h 0 (by decide))
theorem Ybt.below {w w':World}(h:Ybt w)(hb:Below w.heap.size w w'):Ybt w':=fun i hi=>(hb.cell (p:=⟨3,i,none⟩) h.lt).trans (h i hi)
theorem Yyd:∀w,(isAgg 60).run Tryz.prog w=.ok true w:=fun _=>by kernel_rfl
theorem Yrx:∀w,(Go.sizeOf 60).run Tryz.prog w=.ok 64 w:=fun _=>by kernel_rfl
theorem Ynm (w:World)(hp:Ybt w):(loadVar 60 ⟨3,0,none⟩).run Tryz.prog w=.ok (.agg (Ya7 Yja)) w:=by
 have hl:=run_loadCells_list (P:=Tryz.prog) w ⟨3,0,none⟩ (Ypj Yja) (fun j v hj=>by
  have hj64:j<64:=by
   have:=(List.getElem?_eq_some_iff.1 hj).1;rwa [Yd1] at this
  rw[Addr.add_lit,Nat.zero_add,hp j hj64];rw[Yg9 _ hj64] at hj;exact hj)
 rw[Yd1] at hl;unfold loadVar;simp only[Sem.run_bind,Yyd,Result.andThen_ok,if_true,Yrx,hl,Sem.run_pure]
 rfl
theorem Ykx {ops:Array Oper}{rest:List Oper}{a:Act}{w:World}{Q:Exit→Act→World→Prop}{pos:String}{ty:TypeId}{after:Array Edge}{d:Option Tmp}(hp:Ybt w)(h:wpList Tryz.prog ops Q rest (a.put d (.agg (Ya7 Yja))) w):
  wpList Tryz.prog ops Q ({dst:=d,op:=Op.load 60 (Operand.global 3),type:=ty,pos:=pos,after:=after,guard:=none}::rest) a w:=
 wpList_plain rfl fun _ hK=>by
  unfold Oper.wp;rw[Ya8 (ev:=a.eval) (ty:=60) (x:=.global 3) (ad:=⟨3,0,none⟩) rfl rfl (Ynm w hp)];exact hK _ _ h
set_option maxRecDepth 100000 in
set_option maxHeartbeats 2000000 in
theorem Ynz (f:Nat→Int)(w:World)(hp:Ybt w):Calls Tryz.prog 153 #[.agg (Ya7 f)] w (Ybg (Ys1 f) w):=by
 obtain⟨B,hB⟩:∃B,w.heap.size=B:=⟨_,rfl⟩;obtain⟨X,hX⟩:∃X,Ya7 f=X:=⟨_,rfl⟩;obtain⟨Y,hY⟩:∃Y,Ya7 (fun _=>0)=Y:=⟨_,rfl⟩;obtain⟨Z,hZ⟩:∃Z,Ya7 Yja=Z:=⟨_,rfl⟩;have hidx:=fun(w:World) (i:Nat) (h:i<64)=>Yha Yja h w;have hz0:∀w,(zeroValue 60).run Tryz.prog w=.ok (.agg Y) w:=by rw[←hY];exact Yb5
 have HSY:Y.size=64:=by rw[←hY];exact Yam _
 obtain⟨wA,hwA⟩:∃wA,w.alloc (.cells X 60 (0,0))=wA:=⟨_,rfl⟩;obtain⟨wB,hwB⟩:∃wB,wA.alloc (.cells Y 60 (0,0))=wB:=⟨_,rfl⟩;obtain⟨wC,hwC⟩:∃wC,wB.alloc (.cells Y 60 (0,0))=wC:=⟨_,rfl⟩;have hzA:wA.heap.size=B+1:=by rw[←hwA,←hB];simp
 have hzB:wB.heap.size=B+2:=by rw[←hwB];simp;omega
 have hzC:wC.heap.size=B+3:=by rw[←hwC];simp;omega
 have hA0:wA.heap[B]? =some (Yf5 f):=by rw[←hwA,←hB,←hX];exact heap_alloc_new w _
 have hB0:wB.heap[B]? =some (Yf5 f):=by rw[←hwB];exact Yaq hA0
 have hB1:wB.heap[B+1]? =some (.cells Y 60 (0,0)):=by rw[←hwB,←hzA];exact heap_alloc_new wA _
 have hC0:wC.heap[B]? =some (Yf5 f):=by rw[←hwC];exact Yaq hB0
 have hC1:wC.heap[B+1]? =some (.cells Y 60 (0,0)):=by rw[←hwC];exact Yaq hB1
 have hC2:wC.heap[B+2]? =some (Yf5 (Ys2 f 0)):=by
  rw[←hwC,←hzB];refine(heap_alloc_new wB _).trans ?_;rw[←hY]
  rfl
 have hbC:Below B w wC:=by
  rw[←hwC,←hwB,←hwA,←hB];exact(((Below.refl _ w).alloc (Nat.le_refl _) _).alloc (by simp) _).alloc (by simp;omega) _
 have hpC:Ybt wC:=hp.below (by rw[hB];exact hbC);rw[hX];rw[hZ] at hidx;have HIX:=Lib.hid hidx;have HZ:=Lib.hid hZ;have HY:=Lib.hid hY;have HWA:=Lib.hid hwA;have HWB:=Lib.hid hwB;have HWC:=Lib.hid hwC;have HB:=Lib.hid hB;clear hX hY hZ hidx hA0 hB0 hB1 hwA hwB hwC hB hp
 go_enter Tryz.func153,Tryz.ntmps153
 go_wp2_with (rw[HWA.out,HB.out,HWB.out,HWC.out];with_reducible refine Ykx hpC ?_;rw[HZ.out])
 go_loopw [7] (fun z wr=>∃i:Nat,i≤64∧z=.int .i64 i∧wr.heap[B]? =some (Yf5 f)∧wr.heap[B+1]? =some (.cells Y 60 (0,0))∧wr.heap[B+2]? =some (Yf5 (Ys2 f i))∧Below B w wr∧B+3≤wr.heap.size) (fun z _=>64-(intOf z).toNat)
 case atStart=>exact⟨0,by omega,rfl,hC0,hC1,hC2,hbC,by omega⟩
 case round=>
  clear hC0 hC1 hC2 hbC hpC hzA hzB hzC;obtain⟨i,hi64,rfl,h0,h1,h2,hb,hz⟩:=hrel;by_cases hlt:i<64
  ·have hix:=fun w=>HIX.out w i hlt;have hpl:=(Yl6 i hlt).1;have hpf:Yja i=((Ydp i:Nat):Int):=rfl;rw[hpf] at hix;have S:=Lib.hid (show Ys2 f (i+1)=Ycw (Ys2 f i) (Ydp i) (f i) from rfl);obtain⟨p,hpp⟩:∃p,Ydp i=p:=⟨_,rfl⟩;rw[hpp] at hix hpl S;have c0:=Yd2 h0 hlt;have c2:=Yd2 h2 hpl;have ff:=Yfp (i:=p) h2;generalize f i=y at c0 S;generalize Ys2 f i p=y2 at c2
   have PUT:=Lib.hid (⟨Yba h0 (by simp),Yba h1 (by simp),by rw[S.out];exact Yhb y h2,hb.setCell (by simp) _,by simp[World.setCell];omega⟩:(wr.setCell ⟨B+2,p,none⟩ (.int .i64 y)).heap[B]? =some (Yf5 f)∧(wr.setCell ⟨B+2,p,none⟩ (.int .i64 y)).heap[B+1]? =some (.cells Y 60 (0,0))∧(wr.setCell ⟨B+2,p,none⟩ (.int .i64 y)).heap[B+2]? =some (Yf5 (Ys2 f (i+1)))∧Below B w (wr.setCell ⟨B+2,p,none⟩ (.int .i64 y))∧B+3≤(wr.setCell ⟨B+2,p,none⟩ (.int .i64 y)).heap.size)
   clear h0 h1 h2 hb hpf hpp
   go_wp2
   go_roundw
   case rel=>exact⟨i+1,by omega,by go_num,PUT.out⟩
   case measure=>simp[intOf];omega
  ·obtain rfl:i=64:=by omega
   obtain⟨V,hV⟩:∃V,Ya7 (Ys2 f 64)=V:=⟨_,rfl⟩;have HV:=Lib.hid hV;have h2':wr.heap[B+2]? =some (.cells V 60 (0,0)):=by rw[←hV];exact h2
   have HSV:(Tryz.prog.info? 60).map (·.size)=some V.size:=by rw[←hV];exact Yau _
   have HOV:V.all (·.oneCell')=true:=by rw[←hV];exact Ybd _
   have HYV:Y.size=V.size:=by rw[←hV,HSY,Yam]
   clear hV h2 h0
   go_wp2_with (first|(with_reducible refine wpList_load_row rfl 60 _ rfl (B+2) rfl 60 V (0,0) _ h2' Tryz.underlying60 rfl HSV ?_)|(with_reducible refine Yad rfl 60 _ _ rfl (B+1) V Y rfl rfl 60 h1 HSV HYV HOV ?_;intro w2 hh2 hg2))
   refine bodyPost_ret (results_cell_row rfl _ _ (B+1) 60 _ (0,0) _ rfl hh2 Tryz.underlying60 rfl HSV) rfl ?_;exact Yiu (Ywa f) HV.out (by rw[HB.out];exact hb.grown hg2 (by omega) (fun k hk=>by injection hk with hk;omega))
end Go.Proofs.YtnamlooifcpoaaaGreatDoor