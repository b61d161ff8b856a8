/- No condition. -/
import Derived.Test.YtnamlooifcpoaaaGreatDoorScreensNextMf
import Derived.Test.YtnamlooifcpoaaaGreatDoorScreensNextMl
import Derived.WalkMore
import Derived.IntWalk
import Derived.Laws.OwnMore
namespace Go.Proofs.YtnamlooifcpoaaaGreatDoor
open Go.RowKit Go.Lib
def Yr7:List Nat:=[0,1,8,16,9,2,3,10,17,24,32,25,18,11,4,5,12,19,26,33,40,48,41,34,27,20,13,6,7,14,21,28,35,42,49,56,57,50,43,36,29,22,15,23,30,37,44,51,58,59,52,45,38,31,39,46,53,60,61,54,47,55,62,63]
def Ycm (i:Nat):Nat:=Yr7[i]?.getD 0
def Yor (p:Nat):Nat:=Yr7.idxOf p
theorem Yj2:∀i,i<64→Ycm i<64∧Yor (Ycm i)=i:=by decide +kernel
theorem Yos:∀p,p<64→Yor p<64∧Ycm (Yor p)=p:=by decide +kernel
def Yew (i:Nat):Int:=(Ycm i:Nat)
def Yto (f:Nat→Int)(p:Nat):Int:=f (Yor p)
def Ynj (f:Nat→Int):Nat→(Nat→Int)
 |0=>fun _=>0
 |k+1=>Ycr (Ynj f k) (Ycm k) (f k)
theorem Ywu (f:Nat→Int):∀k,k≤64→∀p,p<64→Ynj f k p=if Yor p<k then f (Yor p) else 0
 |0,_,p,_=>rfl
 |k+1,hk,p,hp=>by
  unfold Ynj Ycr;have ih:=Ywu f k (by omega) p hp;have h1:=Yj2 k (by omega);have h2:=Yos p hp;by_cases e:p=Ycm k
  ·subst e;rw[if_pos rfl,h1.2,if_pos (by omega)]
  ·rw[if_neg e,ih];have hne:Yor p≠k:=fun h=>e (by rw[←h];exact h2.2.symm);by_cases hlt:Yor p<k
   ·rw[if_pos hlt,if_pos (by omega)]
   ·rw[if_neg hlt,if_neg (by omega)]
theorem Yr1 (f:Nat→Int):∀p,p<64→Ynj f 64 p=Yto f p:=by
 intro p hp;rw[Ywu f 64 (Nat.le_refl _) p hp,if_pos (Yos p hp).1]
 rfl
def Ycl (w:World):Prop:=∀i,i<64→w.cell? ⟨3,i,none⟩=some (.int .i64 (Ycm i:Nat))
theorem Ycl.lt {w:World}(h:Ycl w):3<w.heap.size:=World.block_lt_of_cell? w ⟨3,0,none⟩ (h 0 (by decide))
theorem Ycl.below {w w':World}(h:Ycl w)(hb:Below w.heap.size w w'):Ycl w':=fun i hi=>(hb.cell (p:=⟨3,i,none⟩) h.lt).trans (h i hi)
theorem Y1q:∀w,(isAgg 60).run Tryz.prog w=.ok true w:=fun _=>by kernel_rfl
theorem Yvi:∀w,(Go.sizeOf 60).run Tryz.prog w=.ok 64 w:=fun _=>by kernel_rfl
theorem Yp6 (w:World)(hp:Ycl w):(loadVar 60 ⟨3,0,none⟩).run Tryz.prog w=.ok (.agg (Ybb Yew)) w:=by
 have hl:=run_loadCells_list (P:=Tryz.prog) w ⟨3,0,none⟩ (Yma Yew) (fun j v hj=>by
  have hj64:j<64:=by
   have:=(List.getElem?_eq_some_iff.1 hj).1;rwa [Yed] at this
  rw[Addr.add_lit,Nat.zero_add,hp j hj64];rw[Yh0 _ hj64] at hj;exact hj)
 rw[Yed] at hl;unfold loadVar;simp only[Sem.run_bind,Y1q,Result.andThen_ok,if_true,Yvi,hl,Sem.run_pure]
 rfl
theorem Ynf {ops:Array Oper}{rest:List Oper}{a:Act}{w:World}{Q:Exit→Act→World→Prop}{pos:String}{ty:TypeId}{after:Array Edge}{d:Option Tmp}(hp:Ycl w)(h:wpList Tryz.prog ops Q rest (a.put d (.agg (Ybb Yew))) w):
  wpList Tryz.prog ops Q ({dst:=d,op:=Op.load 60 (Operand.global 3),type:=ty,pos:=pos,after:=after,guard:=none}::rest) a w:=
 wpList_plain rfl fun _ hK=>by
  unfold Oper.wp;rw[Ybz (ev:=a.eval) (ty:=60) (x:=.global 3) (ad:=⟨3,0,none⟩) rfl rfl (Yp6 w hp)];exact hK _ _ h
set_option maxRecDepth 100000 in
set_option maxHeartbeats 2000000 in
theorem Yqk (f:Nat→Int)(w:World)(hp:Ycl w):Calls Tryz.prog 153 #[.agg (Ybb f)] w (Ybq (Yto f) w):=by
 obtain⟨B,hB⟩:∃B,w.heap.size=B:=⟨_,rfl⟩;obtain⟨X,hX⟩:∃X,Ybb f=X:=⟨_,rfl⟩;obtain⟨Y,hY⟩:∃Y,Ybb (fun _=>0)=Y:=⟨_,rfl⟩;obtain⟨Z,hZ⟩:∃Z,Ybb Yew=Z:=⟨_,rfl⟩;have hidx:=fun(w:World) (i:Nat) (h:i<64)=>Yjh Yew h w;have hz0:∀w,(zeroValue 60).run Tryz.prog w=.ok (.agg Y) w:=by rw[←hY];exact Ybx
 have HSY:Y.size=64:=by rw[←hY];exact Yak _
 obtain⟨wA,hwA⟩:∃wA,w.alloc (.cells X 60 (0,0))=wA:=⟨_,rfl⟩;obtain⟨wB,hwB⟩:∃wB,wA.alloc (.cells Y 60 (0,0))=wB:=⟨_,rfl⟩;obtain⟨wC,hwC⟩:∃wC,wB.alloc (.cells Y 60 (0,0))=wC:=⟨_,rfl⟩;have hzA:wA.heap.size=B+1:=by rw[←hwA,←hB];simp
 have hzB:wB.heap.size=B+2:=by rw[←hwB];simp;omega
 have hzC:wC.heap.size=B+3:=by rw[←hwC];simp;omega
 have hA0:wA.heap[B]? =some (Ycv f):=by rw[←hwA,←hB,←hX];exact heap_alloc_new w _
 have hB0:wB.heap[B]? =some (Ycv f):=by rw[←hwB];exact Yap hA0
 have hB1:wB.heap[B+1]? =some (.cells Y 60 (0,0)):=by rw[←hwB,←hzA];exact heap_alloc_new wA _
 have hC0:wC.heap[B]? =some (Ycv f):=by rw[←hwC];exact Yap hB0
 have hC1:wC.heap[B+1]? =some (.cells Y 60 (0,0)):=by rw[←hwC];exact Yap hB1
 have hC2:wC.heap[B+2]? =some (Ycv (Ynj f 0)):=by
  rw[←hwC,←hzB];refine(heap_alloc_new wB _).trans ?_;rw[←hY]
  rfl
 have hbC:Below B w wC:=by
  rw[←hwC,←hwB,←hwA,←hB];exact(((Below.refl _ w).alloc (Nat.le_refl _) _).alloc (by simp) _).alloc (by simp;omega) _
 have hpC:Ycl wC:=hp.below (by rw[hB];exact hbC);rw[hX];rw[hZ] at hidx;have HIX:=Lib.hid hidx;have HZ:=Lib.hid hZ;have HY:=Lib.hid hY;have HWA:=Lib.hid hwA;have HWB:=Lib.hid hwB;have HWC:=Lib.hid hwC;have HB:=Lib.hid hB;clear hX hY hZ hidx hA0 hB0 hB1 hwA hwB hwC hB hp
 go_enter Tryz.func153,Tryz.ntmps153
 go_wp2_with (rw[HWA.out,HB.out,HWB.out,HWC.out];with_reducible refine Ynf hpC ?_;rw[HZ.out])
 go_loopw [7] (fun z wr=>∃i:Nat,i≤64∧z=.int .i64 i∧wr.heap[B]? =some (Ycv f)∧wr.heap[B+1]? =some (.cells Y 60 (0,0))∧wr.heap[B+2]? =some (Ycv (Ynj f i))∧Below B w wr∧B+3≤wr.heap.size) (fun z _=>64-(intOf z).toNat)
 case atStart=>exact⟨0,by omega,rfl,hC0,hC1,hC2,hbC,by omega⟩
 case round=>
  clear hC0 hC1 hC2 hbC hpC hzA hzB hzC;obtain⟨i,hi64,rfl,h0,h1,h2,hb,hz⟩:=hrel;by_cases hlt:i<64
  ·have hix:=fun w=>HIX.out w i hlt;have hpl:=(Yj2 i hlt).1;have hpf:Yew i=((Ycm i:Nat):Int):=rfl;rw[hpf] at hix;have S:=Lib.hid (show Ynj f (i+1)=Ycr (Ynj f i) (Ycm i) (f i) from rfl);obtain⟨p,hpp⟩:∃p,Ycm i=p:=⟨_,rfl⟩;rw[hpp] at hix hpl S;have c0:=Ybj h0 hlt;have c2:=Ybj h2 hpl;have ff:=Ycs (i:=p) h2;generalize f i=y at c0 S;generalize Ynj f i p=y2 at c2
   have PUT:=Lib.hid (⟨Yat h0 (by simp),Yat h1 (by simp),by rw[S.out];exact Ydp y h2,hb.setCell (by simp) _,by simp[World.setCell];omega⟩:(wr.setCell ⟨B+2,p,none⟩ (.int .i64 y)).heap[B]? =some (Ycv f)∧(wr.setCell ⟨B+2,p,none⟩ (.int .i64 y)).heap[B+1]? =some (.cells Y 60 (0,0))∧(wr.setCell ⟨B+2,p,none⟩ (.int .i64 y)).heap[B+2]? =some (Ycv (Ynj f (i+1)))∧Below B w (wr.setCell ⟨B+2,p,none⟩ (.int .i64 y))∧B+3≤(wr.setCell ⟨B+2,p,none⟩ (.int .i64 y)).heap.size)
   clear h0 h1 h2 hb hpf hpp
   go_wp2
   go_roundw
   case rel=>exact⟨i+1,by omega,by go_num,PUT.out⟩
   case measure=>simp[intOf];omega
  ·obtain rfl:i=64:=by omega
   obtain⟨V,hV⟩:∃V,Ybb (Ynj f 64)=V:=⟨_,rfl⟩;have HV:=Lib.hid hV;have h2':wr.heap[B+2]? =some (.cells V 60 (0,0)):=by rw[←hV];exact h2
   have HSV:(Tryz.prog.info? 60).map (·.size)=some V.size:=by rw[←hV];exact Yau _
   have HOV:V.all (·.oneCell')=true:=by rw[←hV];exact Ya9 _
   have HYV:Y.size=V.size:=by rw[←hV,HSY,Yak]
   clear hV h2 h0
   go_wp2_with (first|(with_reducible refine wpList_load_row rfl 60 _ rfl (B+2) rfl 60 V (0,0) _ h2' Tryz.underlying60 rfl HSV ?_)|(with_reducible refine Yae rfl 60 _ _ rfl (B+1) V Y rfl rfl 60 h1 HSV HYV HOV ?_;intro w2 hh2 hg2))
   refine bodyPost_ret (results_cell_row rfl _ _ (B+1) 60 _ (0,0) _ rfl hh2 Tryz.underlying60 rfl HSV) rfl ?_;exact Yhf (Yr1 f) HV.out (by rw[HB.out];exact hb.grown hg2 (by omega) (fun k hk=>by injection hk with hk;omega))
def Yva (d i:Nat):Nat:=if d%2=0 then 7-i else i
def okD (d i:Nat):Bool:=decide (Yva d i≤d)&&decide (d-Yva d i<8)
def Ypz (d:Nat):Nat→Nat
 |0=>0
 |i+1=>Ypz d i+if okD d i then 1 else 0
def Yvz:Nat→Nat
 |0=>0
 |d+1=>Yvz d+Ypz d 8
theorem Yze:∀d,d<15→∀i,i<8→okD d i=true→Ycm (Yvz d+Ypz d i)=8*Yva d i+(d-Yva d i)∧Yvz d+Ypz d i<64:=by decide +kernel
theorem Yzd:∀d,d<15→∀i,i≤8→Yvz d+Ypz d i≤64:=by decide +kernel
theorem Y1y:Yvz 15=64:=by decide +kernel
theorem Yzc {d i:Nat}(h:okD d i=true):Ypz d (i+1)=Ypz d i+1:=by simp[Ypz,h]
theorem Y1x {d i:Nat}(h:okD d i=false):Ypz d (i+1)=Ypz d i:=by simp[Ypz,h]
def upF (n:Nat)(j:Nat):Int:=if j<n then ((Ycm j:Nat):Int) else 0
theorem Y08 (n:Nat):Ycr (upF n) n ((Ycm n:Nat):Int)=upF (n+1):=by
 funext j
 unfold Ycr upF;by_cases e:j=n
 ·subst e;rw[if_pos rfl,if_pos (by omega)]
 ·rw[if_neg e];by_cases h:j<n
  ·rw[if_pos h,if_pos (by omega)]
  ·rw[if_neg h,if_neg (by omega)]
theorem Y24:∀i,i<64→upF 64 i=Yew i:=by
 intro i hi;unfold upF;rw[if_pos hi]
 rfl
set_option maxRecDepth 100000 in
set_option maxHeartbeats 4000000 in
theorem Ytv (w:World):Calls Tryz.prog 136 #[] w (Ybq Yew w):=by
 obtain⟨B,hB⟩:∃B,w.heap.size=B:=⟨_,rfl⟩;obtain⟨Y,hY⟩:∃Y,Ybb (fun _=>0)=Y:=⟨_,rfl⟩;have hz0:∀w,(zeroValue 60).run Tryz.prog w=.ok (.agg Y) w:=by rw[←hY];exact Ybx
 have HSY:Y.size=64:=by rw[←hY];exact Yak _
 obtain⟨wA,hwA⟩:∃wA,w.alloc (.cells Y 60 (0,0))=wA:=⟨_,rfl⟩;obtain⟨wB,hwB⟩:∃wB,wA.alloc (.cells Y 60 (0,0))=wB:=⟨_,rfl⟩;have hzA:wA.heap.size=B+1:=by rw[←hwA,←hB];simp
 have hzB:wB.heap.size=B+2:=by rw[←hwB];simp;omega
 have hA0:wA.heap[B]? =some (.cells Y 60 (0,0)):=by rw[←hwA,←hB];exact heap_alloc_new w _
 have hB0:wB.heap[B]? =some (.cells Y 60 (0,0)):=by rw[←hwB];exact Yap hA0
 have hB1:wB.heap[B+1]? =some (Ycv (upF 0)):=by
  rw[←hwB,←hzA];refine(heap_alloc_new wA _).trans ?_;rw[←hY]
  rfl
 have hbB:Below B w wB:=by
  rw[←hwB,←hwA,←hB];exact((Below.refl _ w).alloc (Nat.le_refl _) _).alloc (by simp) _
 have HY:=Lib.hid hY;have HWA:=Lib.hid hwA;have HWB:=Lib.hid hwB;have HB:=Lib.hid hB;clear hY hA0 hwA hwB hB
 go_enter Tryz.func136,Tryz.ntmps136
 go_wp2
 rw[HWA.out,HB.out,HWB.out]
 go_loopw [2,3] (fun u z wr=>∃d n:Nat,d≤15∧z=.int .i64 d∧u=.int .i64 n∧Hid (Yvz d=n)∧wr.heap[B]? =some (.cells Y 60 (0,0))∧wr.heap[B+1]? =some (Ycv (upF n))∧Below B w wr∧B+2≤wr.heap.size) (fun _ z _=>15-(intOf z).toNat)
 case atStart=>exact⟨0,0,by omega,rfl,rfl,Lib.hid rfl,hB0,hB1,hbB,by omega⟩
 case round=>
  clear hB0 hB1 hbB hzA hzB;obtain⟨d,n0,hd15,rfl,rfl,hn0,h0,h1,hb,hz⟩:=hrel;by_cases hlt:d<15
  ·have t0:decide ((d:Int)<15)=true:=by simp;omega
   have ST:=Lib.hid (fun(i:Nat) (hi:i<8) (ho:okD d i=true)=>Yze d hlt i hi ho);have MO:=Lib.hid (fun(i:Nat) (hi:i≤8)=>Yzd d hlt i hi);have N0:=hn0;rw[show Yvz d=Yvz d from rfl] at N0
   go_wp2
   go_loopw [2,4] (fun u z wr=>∃i n:Nat,i≤8∧z=.int .i64 i∧u=.int .i64 n∧n≤64∧Hid (Yvz d+Ypz d i=n)∧wr.heap[B]? =some (.cells Y 60 (0,0))∧wr.heap[B+1]? =some (Ycv (upF n))∧Below B w wr∧B+2≤wr.heap.size) (fun _ z _=>8-(intOf z).toNat)
   case atStart=>exact⟨0,n0,by omega,rfl,rfl,by have:=MO.out 0 (by omega);have:=hn0.out;simp[Ypz] at *;omega,Lib.hid hn0.out,h0,h1,hb,hz⟩
   case round=>
    clear h0 h1 hb hz;obtain⟨i,n,hi8,rfl,rfl,hn64,hn,h0,h1,hb,hz⟩:=hrel;by_cases hli:i<8
    ·have t1:decide ((i:Int)<8)=true:=by simp;omega
     obtain⟨r,hr⟩:∃r,Yva d i=r:=⟨_,rfl⟩;have hr7:r≤7:=by rw[←hr];unfold Yva;split <;> omega
     have OK:=Lib.hid (show okD d i=(decide (r≤d)&&decide (d-r<8)) by unfold okD;rw[hr]);have PL:=Lib.hid (fun(ho:okD d i=true)=>(by have:=ST.out i hli ho;rw[hn.out,hr] at this;exact this:Ycm n=8*r+(d-r)∧n<64));have YES:=Lib.hid (fun(ho:okD d i=true)=>(by rw[Yzc ho,←Nat.add_assoc,hn.out]:Yvz d+Ypz d (i+1)=n+1));have NO:=Lib.hid (fun(ho:okD d i=false)=>(by rw[Y1x ho,hn.out]:Yvz d+Ypz d (i+1)=n))
     by_cases hok:r≤d∧d-r<8
     ·have ho:okD d i=true:=by rw[OK.out,decide_eq_true hok.1,decide_eq_true hok.2];rfl
      obtain⟨hpl,hn63⟩:=PL.out ho;have Y1:=Lib.hid (YES.out ho);have t2:decide ((0:Int)≤(d:Int)-(r:Int))=true:=by simp;omega
      have t2':decide (r≤d)=true:=by simp;omega
      have t3:decide ((d:Int)-(r:Int)<8)=true:=by simp;omega
      have c1:=Ybj (i:=n) h1 hn63;have ff:=Ycs (i:=n) h1;generalize upF n n=y0 at c1;have hval:(8:Int)*(r:Int)+((d:Int)-(r:Int))=((Ycm n:Nat):Int):=by rw[hpl];omega
      have PUT:=Lib.hid (⟨Yat h0 (by simp),by rw[←Y08,←hval];exact Ydp _ h1,hb.setCell (by simp) _,by simp[World.setCell];omega⟩:(wr.setCell ⟨B+1,n,none⟩ (.int .i64 (8*(r:Int)+((d:Int)-(r:Int))))).heap[B]? =some (.cells Y 60 (0,0))∧(wr.setCell ⟨B+1,n,none⟩ (.int .i64 (8*(r:Int)+((d:Int)-(r:Int))))).heap[B+1]? =some (Ycv (upF (n+1)))∧Below B w (wr.setCell ⟨B+1,n,none⟩ (.int .i64 (8*(r:Int)+((d:Int)-(r:Int)))))∧B+2≤(wr.setCell ⟨B+1,n,none⟩ (.int .i64 (8*(r:Int)+((d:Int)-(r:Int))))).heap.size)
      clear h0 h1 hb hpl hval ho;by_cases hpar:d%2=0
      ·have hm1:(d:Int).tmod 2=0:=by rw[Int.tmod_eq_emod_of_nonneg (by omega)];omega
       have hm2:(d:Int)%2=0:=by omega
       have er:(7:Int)-(i:Int)=(r:Int):=by rw[←hr];unfold Yva;rw[if_pos hpar];omega
       clear hr hpar hok
       go_wp2
       go_roundw
       case rel=>exact⟨i+1,n+1,by omega,by go_num,by go_num,by omega,Y1,PUT.out⟩
       case measure=>simp[intOf];omega
      ·have hm1:(d:Int).tmod 2=1:=by rw[Int.tmod_eq_emod_of_nonneg (by omega)];omega
       have hm2:(d:Int)%2=1:=by omega
       have er:i=r:=by rw[←hr];unfold Yva;rw[if_neg hpar]
       subst er;clear hr hpar hok
       go_wp2
       go_roundw
       case rel=>exact⟨i+1,n+1,by omega,by go_num,by go_num,by omega,Y1,PUT.out⟩
       case measure=>simp[intOf];omega
     ·have ho:okD d i=false:=by
       rw[OK.out];by_cases h:r≤d
       ·rw[decide_eq_true h,decide_eq_false (fun h2=>hok ⟨h,h2⟩)];rfl
       ·rw[decide_eq_false h];rfl
      have N1:=Lib.hid (NO.out ho);by_cases h3:(d:Int)-(r:Int)<0
      ·have t2:decide ((0:Int)≤(d:Int)-(r:Int))=false:=by simp;omega
       have t2':decide (r≤d)=false:=by simp;omega
       clear ho;by_cases hpar:d%2=0
       ·have hm1:(d:Int).tmod 2=0:=by rw[Int.tmod_eq_emod_of_nonneg (by omega)];omega
        have hm2:(d:Int)%2=0:=by omega
        have er:(7:Int)-(i:Int)=(r:Int):=by rw[←hr];unfold Yva;rw[if_pos hpar];omega
        clear hr hpar hok h3
        go_wp2
        go_roundw
        case rel=>exact⟨i+1,n,by omega,by go_num,rfl,by omega,N1,h0,h1,hb,hz⟩
        case measure=>simp[intOf];omega
       ·have hm1:(d:Int).tmod 2=1:=by rw[Int.tmod_eq_emod_of_nonneg (by omega)];omega
        have hm2:(d:Int)%2=1:=by omega
        have er:i=r:=by rw[←hr];unfold Yva;rw[if_neg hpar]
        subst er;clear hr hpar hok h3
        go_wp2
        go_roundw
        case rel=>exact⟨i+1,n,by omega,by go_num,rfl,by omega,N1,h0,h1,hb,hz⟩
        case measure=>simp[intOf];omega
      ·have t2:decide ((0:Int)≤(d:Int)-(r:Int))=true:=by simp;omega
       have t2':decide (r≤d)=true:=by simp;omega
       have t3:decide ((d:Int)-(r:Int)<8)=false:=by simp;omega
       clear ho;by_cases hpar:d%2=0
       ·have hm1:(d:Int).tmod 2=0:=by rw[Int.tmod_eq_emod_of_nonneg (by omega)];omega
        have hm2:(d:Int)%2=0:=by omega
        have er:(7:Int)-(i:Int)=(r:Int):=by rw[←hr];unfold Yva;rw[if_pos hpar];omega
        clear hr hpar hok h3
        go_wp2
        go_roundw
        case rel=>exact⟨i+1,n,by omega,by go_num,rfl,by omega,N1,h0,h1,hb,hz⟩
        case measure=>simp[intOf];omega
       ·have hm1:(d:Int).tmod 2=1:=by rw[Int.tmod_eq_emod_of_nonneg (by omega)];omega
        have hm2:(d:Int)%2=1:=by omega
        have er:i=r:=by rw[←hr];unfold Yva;rw[if_neg hpar]
        subst er;clear hr hpar hok h3
        go_wp2
        go_roundw
        case rel=>exact⟨i+1,n,by omega,by go_num,rfl,by omega,N1,h0,h1,hb,hz⟩
        case measure=>simp[intOf];omega
    ·obtain rfl:i=8:=by omega
     go_wp2
     go_roundw
     case rel=>exact⟨d+1,n,by omega,by go_num,rfl,Lib.hid hn.out,h0,h1,hb,hz⟩
     case measure=>simp[intOf];omega
  ·obtain rfl:d=15:=by omega
   have e64:n0=64:=by rw[←hn0.out];exact Y1y
   subst e64;obtain⟨V,hV⟩:∃V,Ybb (upF 64)=V:=⟨_,rfl⟩;have HV:=Lib.hid hV;have h2':wr.heap[B+1]? =some (.cells V 60 (0,0)):=by rw[←hV];exact h1
   have HSV:(Tryz.prog.info? 60).map (·.size)=some V.size:=by rw[←hV];exact Yau _
   have HOV:V.all (·.oneCell')=true:=by rw[←hV];exact Ya9 _
   have HYV:Y.size=V.size:=by rw[←hV,HSY,Yak]
   clear hV h1
   go_wp2_with (first|(with_reducible refine wpList_load_row rfl 60 _ rfl (B+1) rfl 60 V (0,0) _ h2' Tryz.underlying60 rfl HSV ?_)|(with_reducible refine Yae rfl 60 _ _ rfl B V Y rfl rfl 60 h0 HSV HYV HOV ?_;intro w2 hh2 hg2))
   refine bodyPost_ret (results_cell_row rfl _ _ B 60 _ (0,0) _ rfl hh2 Tryz.underlying60 rfl HSV) rfl ?_;exact Yhf Y24 HV.out (by rw[HB.out];exact hb.grown hg2 (by omega) (fun k hk=>by injection hk with hk;omega))
set_option maxRecDepth 100000 in
set_option maxHeartbeats 4000000 in
theorem Yql (f:Nat→Int)(w:World):Calls Tryz.prog 110 #[.agg (Ybb f)] w (Ybq (Yto f) w):=by
 have HORD:=Lib.hid Ytv;obtain⟨B,hB⟩:∃B,w.heap.size=B:=⟨_,rfl⟩;obtain⟨X,hX⟩:∃X,Ybb f=X:=⟨_,rfl⟩;obtain⟨Y,hY⟩:∃Y,Ybb (fun _=>0)=Y:=⟨_,rfl⟩;obtain⟨Z,hZ⟩:∃Z,Ybb Yew=Z:=⟨_,rfl⟩;have HSZ:(Tryz.prog.info? 60).map (·.size)=some Z.size:=by rw[←hZ];exact Yau _
 have HOZ:Z.all (·.oneCell')=true:=by rw[←hZ];exact Ya9 _
 have HZV:=Lib.hid (show∀w,(zeroValue 60).run Tryz.prog w=.ok (.agg Y) w by rw[←hY];exact Ybx);have hz0:=HZV.out;have HSY:Y.size=64:=by rw[←hY];exact Yak _
 have HYZ:Y.size=Z.size:=by rw[←hY,←hZ,Yak,Yak]
 obtain⟨wA,hwA⟩:∃wA,w.alloc (.cells X 60 (0,0))=wA:=⟨_,rfl⟩;obtain⟨wB,hwB⟩:∃wB,wA.alloc (.cells Y 60 (0,0))=wB:=⟨_,rfl⟩;have hzA:wA.heap.size=B+1:=by rw[←hwA,←hB];simp
 have hzB:wB.heap.size=B+2:=by rw[←hwB];simp;omega
 have hA0:wA.heap[B]? =some (Ycv f):=by rw[←hwA,←hB,←hX];exact heap_alloc_new w _
 have hB0:wB.heap[B]? =some (Ycv f):=by rw[←hwB];exact Yap hA0
 have hB1:wB.heap[B+1]? =some (.cells Y 60 (0,0)):=by rw[←hwB,←hzA];exact heap_alloc_new wA _
 have hbB:Below B w wB:=by
  rw[←hwB,←hwA,←hB];exact((Below.refl _ w).alloc (Nat.le_refl _) _).alloc (by simp) _
 rw[hX];have HZ:=Lib.hid hZ;have HY:=Lib.hid hY;have HWA:=Lib.hid hwA;have HWB:=Lib.hid hwB;have HB:=Lib.hid hB;clear hX hY hZ hA0 hwA hwB hB
 go_enter Tryz.func110,Tryz.ntmps110
 go_wp2_with fail
 rw[HWA.out,HB.out,HWB.out];refine(HORD.out _).mono ?_;rintro e w1 ⟨rfl,hb1⟩;rw[HZ.out];obtain⟨Q,hQ⟩:∃Q,w1.heap.size=Q:=⟨_,rfl⟩;have hQB:B+2≤Q:=by have:=hb1.size;omega
 obtain⟨wC,hwC⟩:∃wC,w1.alloc (.cells Y 60 (0,0))=wC:=⟨_,rfl⟩;have hzC:wC.heap.size=Q+1:=by rw[←hwC];simp;omega
 have h10:w1.heap[B]? =some (Ycv f):=(hb1.block B (by omega)).trans hB0;have h11:w1.heap[B+1]? =some (.cells Y 60 (0,0)):=(hb1.block (B+1) (by omega)).trans hB1;have hbC:Below B w wC:=by rw[←hwC];exact(hbB.trans (hb1.mono (by omega))).alloc (by omega) _
 have hC0:wC.heap[B]? =some (Ycv f):=by rw[←hwC];exact Yap h10
 have hC1:wC.heap[B+1]? =some (.cells Y 60 (0,0)):=by rw[←hwC];exact Yap h11
 have hC2:wC.heap[Q]? =some (.cells Y 60 (0,0)):=by rw[←hwC,←hQ];exact heap_alloc_new w1 _
 have HWC:=Lib.hid hwC;have HQ:=Lib.hid hQ;have K0:∀(x:World),wC.grownBy x (some Q)→x.heap[B]? =some (Ycv f)∧x.heap[B+1]? =some (.cells Y 60 (0,0))∧Below B w x∧Q+1≤x.heap.size:=fun x hg=>
  ⟨(hg.block B (by omega) (by intro e;injection e with e;omega)).trans hC0,(hg.block (B+1) (by omega) (by intro e;injection e with e;omega)).trans hC1,hbC.grown hg (by omega) (fun k hk=>by injection hk with hk;omega),by have:=hg.size;omega⟩
 have KD:=Lib.hid K0;have HQB:=Lib.hid hQB;have HH:=Lib.hid hC2;clear hwC hQ hzC h10 h11 hbC hC0 hC1 hC2 K0 hb1 hB0 hB1 hbB hzA hzB hQB
 go_wp2_with (rw[HWC.out,HQ.out];with_reducible refine Yae rfl 60 _ _ rfl Q Z Y rfl rfl 60 HH.out HSZ HYZ HOZ ?_;intro w2 hh2 hg2)
 obtain⟨h20,h21,hb2,hz2⟩:=KD.out _ hg2;have hh2':w2.heap[Q]? =some (Ycv Yew):=by unfold Ycv;rw[HZ.out];exact hh2
 have hQB:=HQB.out;obtain⟨R,hR⟩:∃R,w2.heap.size=R:=⟨_,rfl⟩;have hRQ:Q<R:=by omega
 obtain⟨wD,hwD⟩:∃wD,w2.alloc (.cells Y 60 (0,0))=wD:=⟨_,rfl⟩;have hD0:wD.heap[B]? =some (Ycv f):=by rw[←hwD];exact Yap h20
 have hD1:wD.heap[B+1]? =some (.cells Y 60 (0,0)):=by rw[←hwD];exact Yap h21
 have hD2:wD.heap[Q]? =some (Ycv Yew):=by rw[←hwD];exact Yap hh2'
 have hD3:wD.heap[R]? =some (Ycv (Ynj f 0)):=by
  rw[←hwD,←hR];refine(heap_alloc_new w2 _).trans ?_;rw[←HY.out]
  rfl
 have hbD:Below B w wD:=by rw[←hwD];exact hb2.alloc (by omega) _
 have hzD:R+1≤wD.heap.size:=by rw[←hwD];simp;omega
 rw[hwD,hR];have HRQ:=Lib.hid (show B+2≤Q∧Q<R from⟨hQB,hRQ⟩);clear hh2 hg2 h20 h21 hb2 hz2 hh2' hwD hR hRQ hQB
 go_loopw [5] (fun z wr=>∃i:Nat,i≤64∧z=.int .i64 i∧wr.heap[B]? =some (Ycv f)∧wr.heap[B+1]? =some (.cells Y 60 (0,0))∧wr.heap[Q]? =some (Ycv Yew)∧wr.heap[R]? =some (Ycv (Ynj f i))∧Below B w wr∧R+1≤wr.heap.size) (fun z _=>64-(intOf z).toNat)
 case atStart=>exact⟨0,by omega,rfl,hD0,hD1,hD2,hD3,hbD,hzD⟩
 case round=>
  clear hD0 hD1 hD2 hD3 hbD hzD;obtain⟨i,hi64,rfl,h0,h1,h2,h3,hb,hz⟩:=hrel;obtain⟨hQB,hRQ⟩:=HRQ.out;by_cases hlt:i<64
  ·have t0:decide ((i:Int)<64)=true:=by simp;omega
   have hpl:=(Yj2 i hlt).1;have hpf:Yew i=((Ycm i:Nat):Int):=rfl;have ST:=Lib.hid (show Ynj f (i+1)=Ycr (Ynj f i) (Ycm i) (f i) from rfl);have c2:=Ybj h2 hlt;rw[hpf] at c2;obtain⟨p,hpp⟩:∃p,Ycm i=p:=⟨_,rfl⟩;rw[hpp] at c2 hpl ST;have c0:=Ybj h0 hlt;have c3:=Ybj h3 hpl;have ff:=Ycs (i:=p) h3;generalize f i=y at c0 ST;generalize Ynj f i p=y2 at c3
   have PUT:=Lib.hid (fun(x:World) (hx:x.heap=wr.heap) (hb':Below B w x)=>(⟨Yat (by rw[hx];exact h0) (by show B≠R;omega),Yat (by rw[hx];exact h1) (by show B+1≠R;omega),Yat (by rw[hx];exact h2) (by show Q≠R;omega),by rw[ST.out];exact Ydp y (by rw[hx];exact h3),hb'.setCell (by show B≤R;omega) _,by simp[World.setCell];rw[hx];omega⟩:(x.setCell ⟨R,p,none⟩ (.int .i64 y)).heap[B]? =some (Ycv f)∧(x.setCell ⟨R,p,none⟩ (.int .i64 y)).heap[B+1]? =some (.cells Y 60 (0,0))∧(x.setCell ⟨R,p,none⟩ (.int .i64 y)).heap[Q]? =some (Ycv Yew)∧(x.setCell ⟨R,p,none⟩ (.int .i64 y)).heap[R]? =some (Ycv (Ynj f (i+1)))∧Below B w (x.setCell ⟨R,p,none⟩ (.int .i64 y))∧R+1≤(x.setCell ⟨R,p,none⟩ (.int .i64 y)).heap.size))
   have P1:=Lib.hid (PUT.out wr.drew rfl hb.drew);clear h0 h1 h2 h3 hb hpf hpp PUT
   go_wp2
   go_region
   go_wp2
   go_roundw
   case rel=>exact⟨i+1,by omega,by go_num,P1.out⟩
   case measure=>simp[intOf];omega
  ·obtain rfl:i=64:=by omega
   have t0:decide ((64:Int)<64)=false:=by simp
   obtain⟨V,hV⟩:∃V,Ybb (Ynj f 64)=V:=⟨_,rfl⟩;have HV:=Lib.hid hV;have h2':wr.heap[R]? =some (.cells V 60 (0,0)):=by rw[←hV];exact h3
   have HSV:(Tryz.prog.info? 60).map (·.size)=some V.size:=by rw[←hV];exact Yau _
   have HOV:V.all (·.oneCell')=true:=by rw[←hV];exact Ya9 _
   have HYV:Y.size=V.size:=by rw[←hV,HSY,Yak]
   clear hV h2 h0 h3
   go_wp2_with (first|(with_reducible refine wpList_load_row rfl 60 _ rfl R rfl 60 V (0,0) _ h2' Tryz.underlying60 rfl HSV ?_)|(with_reducible refine Yae rfl 60 _ _ rfl (B+1) V Y rfl rfl 60 h1 HSV HYV HOV ?_;intro w2 hh2 hg2))
   refine bodyPost_ret (results_cell_row rfl _ _ (B+1) 60 _ (0,0) _ rfl hh2 Tryz.underlying60 rfl HSV) rfl ?_;exact Yhf (Yr1 f) HV.out (by rw[HB.out];exact hb.grown hg2 (by omega) (fun k hk=>by injection hk with hk;omega))
end Go.Proofs.YtnamlooifcpoaaaGreatDoor