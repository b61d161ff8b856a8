/- No condition. -/
import Derived.Test.YtnamlooifcpoaaaGreatDoorScreensStillMb
import Derived.Test.YtnamlooifcpoaaaGreatDoorScreensStillMh
import Derived.Test.YtnamlooifcpoaaaGreatDoorScreensStillMl
import Derived.Test.YtnamlooifcpoaaaGreatDoorScreensStillMo
import Derived.Test.YtnamlooifcpoaaaGreatDoorScreensStillMs
import Derived.WalkMore
import Derived.IntWalk
import Derived.Test.YtnamlooifcpoaaaGreatDoorRows
namespace Go.Proofs.YtnamlooifcpoaaaGreatDoor
open Go.RowKit Go.Lib
theorem Yvo:(Tryz.prog.info? 162).map (·.size)=some 64:=by kernel_rfl
theorem Yfq (f:Nat→Int):(Tryz.prog.info? 162).map (·.size)=some (arn 64 f).size:=Yg8 Yvo f
theorem Yj6:∀w,(zeroValue 162).run Tryz.prog w=.ok (.agg (arn 64 fun _=>0)) w:=Yj2 (by kernel_rfl)
theorem Yr2 (f:Nat→Int){i:Nat}(h:i<64)(w:World):(Instr.index 162 (.agg (arn 64 f)) (.int .i64 (i:Int))).run Tryz.prog w=.ok (.int .i64 (f i)) w:=by
 obtain⟨j,hj⟩:=Yer;exact Yld Tryz.underlying162 hj Ydt Ycf f h w
theorem Yti (f:Nat→Int):(Tryz.prog.info? 129).map (·.size)=some (arn 8 f).size:=Yg8 (by kernel_rfl) f
theorem Ywl:∀w,(zeroValue 129).run Tryz.prog w=.ok (.agg (arn 8 fun _=>0)) w:=Yj2 (by kernel_rfl)
theorem Yth (f:Nat→Int){i:Nat}(h:i<8)(w:World):(Instr.index 129 (.agg (arn 8 f)) (.int .i64 (i:Int))).run Tryz.prog w=.ok (.int .i64 (f i)) w:=by
 obtain⟨j,hj⟩:=Yer;exact Yld Tryz.underlying129 hj Ydt Ycf f h w
def Yck (w:World):Prop:=∀i,i<64→w.cell? ⟨1,i,none⟩=some (.int .i64 (wt i))
theorem Yck.lt {w:World}(h:Yck w):1<w.heap.size:=World.block_lt_of_cell? w ⟨1,0,none⟩ (h 0 (by decide))
theorem Yck.below {w w':World}(h:Yck w)(hb:Below w.heap.size w w'):Yck w':=fun i hi=>(hb.cell (p:=⟨1,i,none⟩) h.lt).trans (h i hi)
set_option maxRecDepth 100000 in
set_option maxHeartbeats 2000000 in
theorem Yll (f:Nat→Int)(w:World):Calls Tryz.prog 130 #[.agg (Ya7 f)] w (Yb4 64 (Ycu f) w):=by
 obtain⟨X,hX⟩:∃X,Ya7 f=X:=⟨_,rfl⟩;obtain⟨Y,hY⟩:∃Y,arn 64 (fun _=>0)=Y:=⟨_,rfl⟩;have hidx:=fun(w:World) (i:Nat) (h:i<64)=>Yha f h w;have hz0:∀w,(zeroValue 162).run Tryz.prog w=.ok (.agg Y) w:=by rw[←hY];exact Yj6
 have HSY:Y.size=64:=by rw[←hY];exact Yar _ _
 have HSX:(Tryz.prog.info? 60).map (·.size)=some X.size:=by rw[←hX];exact Yau _
 obtain⟨B,wA,wB,wC,hB,hwA,hwB,hwC,hzA,hzB,hzC,hC0,hC1,hC2,hbC⟩:=Yic w (.cells X 60 (0,0)) (.cells Y 162 (0,0)) (.cells Y 162 (0,0));have hC2:wC.heap[B+2]? =some (Ydn 162 64 (Ybn (Ycu f) 0)):=by rw[hC2,←hY];rfl
 rw[hX];rw[hX] at hidx;have HIX:=Lib.hid hidx;have HY:=Lib.hid hY;have HWA:=Lib.hid hwA;have HWB:=Lib.hid hwB;have HWC:=Lib.hid hwC;have HB:=Lib.hid hB;clear hX hY hidx hwA hwB hwC hB
 go_enter Tryz.func130,Tryz.ntmps130
 go_wp2_with (rw[HWA.out,HB.out,HWB.out,HWC.out];with_reducible refine wpList_load_row rfl 60 _ rfl B rfl 60 X (0,0) _ hC0 Tryz.underlying60 rfl HSX ?_)
 go_loopw [7] (fun z wr=>∃i:Nat,i≤64∧z=.int .i64 i∧wr.heap[B+1]? =some (.cells Y 162 (0,0))∧wr.heap[B+2]? =some (Ydn 162 64 (Ybn (Ycu f) i))∧Below B w wr∧B+3≤wr.heap.size) (fun z _=>64-(intOf z).toNat)
 case atStart=>exact⟨0,by omega,rfl,hC1,hC2,hbC,by omega⟩
 case round=>
  clear hC0 hC1 hC2 hbC hzA hzB hzC;obtain⟨i,hi64,rfl,h1,h2,hb,hz⟩:=hrel;by_cases hlt:i<64
  ·have hix:=fun w=>HIX.out w i hlt;have t0:decide ((i:Int)<64)=true:=by simp;omega
   have S:=Lib.hid (show Ybn (Ycu f) (i+1)=Ycw (Ybn (Ycu f) i) i (Yay (f i) (-2048) 2047) from rfl);have cv:=fun w=>Ya1 (f i) (-2048) 2047 w;generalize Yay (f i) (-2048) 2047=y at cv S;generalize f i=x at cv hix;have c2:=Ydj h2 hlt;have ff:=Yfn (i:=i) h2;generalize Ybn (Ycu f) i i=y2 at c2
   have PUT:=Lib.hid (⟨Yba h1 (by simp),by rw[S.out];exact Yg7 y h2,hb.setCell (by simp) _,by simp[World.setCell];omega⟩:(wr.setCell ⟨B+2,i,none⟩ (.int .i64 y)).heap[B+1]? =some (.cells Y 162 (0,0))∧(wr.setCell ⟨B+2,i,none⟩ (.int .i64 y)).heap[B+2]? =some (Ydn 162 64 (Ybn (Ycu f) (i+1)))∧Below B w (wr.setCell ⟨B+2,i,none⟩ (.int .i64 y))∧B+3≤(wr.setCell ⟨B+2,i,none⟩ (.int .i64 y)).heap.size)
   clear h1 h2 hb
   go_wp2_with (with_reducible refine(cv _).mono ?_;rintro e w1 ⟨rfl,rfl⟩)
   go_roundw
   case rel=>exact⟨i+1,by omega,by go_num,PUT.out⟩
   case measure=>simp[intOf] <;> omega
  ·obtain rfl:i=64:=by omega
   have t0:decide ((64:Int)<64)=false:=by simp
   obtain⟨V,hV⟩:∃V,arn 64 (Ybn (Ycu f) 64)=V:=⟨_,rfl⟩;have HV:=Lib.hid hV;have h2':wr.heap[B+2]? =some (.cells V 162 (0,0)):=by rw[←hV];exact h2
   have HSV:(Tryz.prog.info? 162).map (·.size)=some V.size:=by rw[←hV];exact Yfq _
   have HOV:V.all (·.oneCell')=true:=by rw[←hV];exact Ybz _ _
   have HYV:Y.size=V.size:=by rw[←hV,HSY,Yar]
   clear hV h2
   go_wp2_with (first|(with_reducible refine wpList_load_row rfl 162 _ rfl (B+2) rfl 162 V (0,0) _ h2' Tryz.underlying162 rfl HSV ?_)|(with_reducible refine Yad rfl 162 _ _ rfl (B+1) V Y rfl rfl 162 h1 HSV HYV HOV ?_;intro w2 hh2 hg2))
   refine bodyPost_ret (results_cell_row rfl _ _ (B+1) 162 _ (0,0) _ rfl hh2 Tryz.underlying162 rfl HSV) rfl ?_;exact Yfo (Ydu 64 (Ycu f)) HV.out (by rw[HB.out];exact hb.grown hg2 (by omega) (fun k hk=>by injection hk with hk;omega))
set_option maxRecDepth 100000 in
set_option maxHeartbeats 2000000 in
theorem Yv8 (b:Nat→Int)(r:Nat)(M:Int)(w:World)(hr:r<8)(hM:M≤1099511627776)(hin:InB M b)(hp:Yck w):Calls Tryz.prog 131 #[.agg (arn 64 b),.int .i64 (r:Int)] w (Yb4 8 (Yjg kI b r) w):=by
 obtain⟨X,hX⟩:∃X,arn 64 b=X:=⟨_,rfl⟩;obtain⟨Y,hY⟩:∃Y,arn 8 (fun _=>0)=Y:=⟨_,rfl⟩;have hz0:∀w,(zeroValue 129).run Tryz.prog w=.ok (.agg Y) w:=by rw[←hY];exact Ywl
 have HSY:Y.size=8:=by rw[←hY];exact Yar _ _
 obtain⟨B,wA,wB,wC,hB,hwA,hwB,hwC,hzA,hzB,hzC,hC0,hC1,hC2,hbC⟩:=Yic w (.cells X 162 (0,0)) (.cells Y 129 (0,0)) (.cells Y 129 (0,0));have hC0:wC.heap[B]? =some (Ydn 162 64 b):=by rw[hC0,←hX];rfl
 have hC2:wC.heap[B+2]? =some (Ydn 129 8 (Ybn (Yjg kI b r) 0)):=by rw[hC2,←hY];rfl
 have HP:=Lib.hid (fun(x:World) (hx:Below B w x)=>hp.below (by rw[hB];exact hx));rw[hX];have HY:=Lib.hid hY;have HWA:=Lib.hid hwA;have HWB:=Lib.hid hwB;have HWC:=Lib.hid hwC;have HB:=Lib.hid hB;clear hX hY hwA hwB hwC hB hp
 go_enter Tryz.func131,Tryz.ntmps131
 go_wp2
 rw[HWA.out,HB.out,HWB.out,HWC.out]
 go_loopw [8] (fun z wr=>∃u:Nat,u≤8∧z=.int .i64 u∧wr.heap[B]? =some (Ydn 162 64 b)∧wr.heap[B+1]? =some (.cells Y 129 (0,0))∧wr.heap[B+2]? =some (Ydn 129 8 (Ybn (Yjg kI b r) u))∧Below B w wr∧B+3≤wr.heap.size) (fun z _=>8-(intOf z).toNat)
 case atStart=>exact⟨0,by omega,rfl,hC0,hC1,hC2,hbC,by omega⟩
 case round=>
  clear hC0 hC1 hC2 hbC hzA hzB hzC;obtain⟨u,hu8,rfl,h0,h1,h2,hb,hz⟩:=hrel;by_cases hlt:u<8
  ·have t0:decide ((u:Int)<8)=true:=by simp;omega
   have h2:wr.heap[B+2]? =some (Ydn 129 8 (Ycw (Ybn (Yjg kI b r) u) u (Ygq 0 fun x=>kI u x*b (8*r+x)))):=by
    rw[h2];unfold Ydn;rw[←Ybo fun p _=>Ytx (Yjg kI b r) u p]
    rfl
   go_wp2
   go_loopw [11] (fun z wq=>∃x:Nat,x≤8∧z=.int .i64 x∧wq.heap[B]? =some (Ydn 162 64 b)∧wq.heap[B+1]? =some (.cells Y 129 (0,0))∧wq.heap[B+2]? =some (Ydn 129 8 (Ycw (Ybn (Yjg kI b r) u) u (Ygq x fun x=>kI u x*b (8*r+x))))∧Below B w wq∧B+3≤wq.heap.size) (fun z _=>8-(intOf z).toNat)
   case atStart=>exact⟨0,by omega,rfl,h0,h1,h2,hb,hz⟩
   case round=>
    clear h0 h1 h2 hb hz;obtain⟨x,hx8,rfl,h0,h1,h2,hb,hz⟩:=hrel;by_cases hlx:x<8
    ·have t1:decide ((x:Int)<8)=true:=by simp;omega
     have m1:=Yud Yyx hin r u hr hlt x hx8;have m2:=Yyx u x hlt hlx;have m3:=hin (8*r+x) (by omega);have m4:=Yi7 m2.1 m2.2 m3.1 m3.2;have c0:=Ydj h0 (show 8*r+x<64 by omega);have c1:=HP.out wr hb (8*x+u) (by omega);have c2:=Ydj h2 hlt;rw[Yzg] at c2;have ff:=Yfn (i:=u) h2
     have S:=Lib.hid (show Ycw (Ybn (Yjg kI b r) u) u (Ygq (x+1) fun x=>kI u x*b (8*r+x))=Ycw (Ycw (Ybn (Yjg kI b r) u) u (Ygq x fun x=>kI u x*b (8*r+x))) u (Ygq x (fun x=>kI u x*b (8*r+x))+kI u x*b (8*r+x)) by rw[Yqw];rfl);have e1:Ygq x (fun x=>kI u x*b (8*r+x))+kI u x*b (8*r+x)=Ygq x (fun x=>kI u x*b (8*r+x))+wt (8*x+u)*b (8*r+x):=rfl;rw[e1] at S
     have m5:-89*M≤wt (8*x+u)*b (8*r+x)∧wt (8*x+u)*b (8*r+x)≤89*M:=by
      have:wt (8*x+u)*b (8*r+x)=kI u x*b (8*r+x):=rfl;omega
     generalize Ygq x (fun x=>kI u x*b (8*r+x))=y at c2 S m1 h2;generalize b (8*r+x)=z1 at c0 S m5;generalize wt (8*x+u)=z2 at c1 S m5;obtain⟨z3,hz3⟩:∃z3,z2*z1=z3:=⟨_,rfl⟩;rw[hz3] at S m5;have Z3:=Lib.hid hz3;have q1:wrap64 (z2*z1)=z3:=by rw[hz3];exact IntWalk.wrap64_in z3 (by omega)
     have q2:wrap64 (y+z3)=y+z3:=IntWalk.wrap64_in (y+z3) (by omega)
     have PUT:=Lib.hid (fun(w2:World) (e:(wr.setCell ⟨B+1+1,u,none⟩ (.int .i64 (y+z3))).drew=w2)=>(by subst e;exact⟨Yba (a:=⟨B+1+1,u,none⟩) h0 (by simp;omega),Yba (a:=⟨B+1+1,u,none⟩) h1 (by simp),by rw[S.out];exact Yg7 (y+z3) h2,(hb.setCell (p:=⟨B+1+1,u,none⟩) (by simp;omega) _).drew,by simp[World.setCell,World.drew];omega⟩:w2.heap[B]? =some (Ydn 162 64 b)∧w2.heap[B+1]? =some (.cells Y 129 (0,0))∧w2.heap[B+2]? =some (Ydn 129 8 (Ycw (Ybn (Yjg kI b r) u) u (Ygq (x+1) fun x=>kI u x*b (8*r+x))))∧Below B w w2∧B+3≤w2.heap.size))
     have b1:(8*r+x:Nat)<64:=by omega
     have b2:(8*x+u:Nat)<64:=by omega
     have Q1:=Lib.hid q1;have Q2:=Lib.hid q2;clear h0 h1 h2 hb m2 m3 m4 hz3 S e1 q1 q2
     go_wp2
     go_region
     rw[Q1.out,Q2.out];generalize hw2:(wr.setCell _ _).drew=w2;have F:=PUT.out w2 hw2;clear hw2 PUT Q1 Q2 c0 c1 c2 ff
     go_wp2
     go_roundw
     case rel=>exact⟨x+1,by omega,by go_num,F⟩
     case measure=>simp[intOf];omega
    ·obtain rfl:x=8:=by omega
     have t1:decide ((8:Int)<8)=false:=by simp
     have h2':wr.heap[B+2]? =some (Ydn 129 8 (Ybn (Yjg kI b r) (u+1))):=h2;clear h2
     go_wp2
     go_roundw
     case rel=>exact⟨u+1,by omega,by go_num,h0,h1,h2',hb,hz⟩
     case measure=>simp[intOf];omega
  ·obtain rfl:u=8:=by omega
   have t0:decide ((8:Int)<8)=false:=by simp
   obtain⟨V,hV⟩:∃V,arn 8 (Ybn (Yjg kI b r) 8)=V:=⟨_,rfl⟩;have HV:=Lib.hid hV;have h2':wr.heap[B+2]? =some (.cells V 129 (0,0)):=by rw[←hV];exact h2
   have HSV:(Tryz.prog.info? 129).map (·.size)=some V.size:=by rw[←hV];exact Yti _
   have HOV:V.all (·.oneCell')=true:=by rw[←hV];exact Ybz _ _
   have HYV:Y.size=V.size:=by rw[←hV,HSY,Yar]
   clear hV h2
   go_wp2_with (first|(with_reducible refine wpList_load_row rfl 129 _ rfl (B+2) rfl 129 V (0,0) _ h2' Tryz.underlying129 rfl HSV ?_)|(with_reducible refine Yad rfl 129 _ _ rfl (B+1) V Y rfl rfl 129 h1 HSV HYV HOV ?_;intro w2 hh2 hg2))
   refine bodyPost_ret (results_cell_row rfl _ _ (B+1) 129 _ (0,0) _ rfl hh2 Tryz.underlying129 rfl HSV) rfl ?_;exact Yfo (Ydu 8 (Yjg kI b r)) HV.out (by rw[HB.out];exact hb.grown hg2 (by omega) (fun k hk=>by injection hk with hk;omega))
theorem Yov {f : FuncId} {fn : Func} {c : Code} (hf : Tryz.prog.funcs[f]? = some fn) (hname : (fn.name == "runtime.NumGoroutine") = false) (hb : fn.body = some c) (args : Array Value) (w : World) : (callFunc f args).run Tryz.prog w = .ok (.enter f args) w := by
 have h1 : fn.name ≠ "runtime.NumGoroutine" := by simpa using hname
 simp[callFunc,hf,h1,hb]
def Yk6 (fn:FuncId)(X:Array Value)(g:Nat→Nat→Int)(w:World):Prop:=∀(r:Nat),r<8→∀x,Below w.heap.size w x→Calls Tryz.prog fn #[.agg X,.int .i64 (r:Int)] x (Yb4 8 (g r) x)
def Ynh (g:Nat→Nat→Int)(r c p:Nat):Int:=if p%8<r∨(p%8=r∧p / 8<c) then g (p%8) (p / 8) else 0
theorem Ysk (g:Nat→Nat→Int):∀p,Ynh g 0 0 p=0:=fun p=>if_neg (by omega)
theorem Yvz (g:Nat→Nat→Int)(r c:Nat)(hr:r<8):∀p,Ycw (Ynh g r c) (8*c+r) (g r c) p=Ynh g r (c+1) p:=by
 intro p;unfold Ycw Ynh;by_cases e:p=8*c+r
 ·rw[if_pos e,if_pos (by omega),show p%8=r by omega,show p / 8=c by omega]
 ·rw[if_neg e];by_cases h:p%8<r∨(p%8=r∧p / 8<c)
  ·rw[if_pos h,if_pos (by omega)]
  ·rw[if_neg h,if_neg (by omega)]
theorem Ysj (g:Nat→Nat→Int)(r:Nat):∀p,p<64→Ynh g r 8 p=Ynh g (r+1) 0 p:=by
 intro p hp;unfold Ynh;by_cases h:p%8<r∨(p%8=r∧p / 8<8)
 ·rw[if_pos h,if_pos (by omega)]
 ·rw[if_neg h,if_neg (by omega)]
theorem Yvy (g:Nat→Nat→Int):∀p,p<64→Ynh g 8 0 p=g (p%8) (p / 8):=fun p _=>if_pos (by omega)
set_option maxRecDepth 100000 in
set_option maxHeartbeats 2000000 in
theorem Yn8 (fn:FuncId)(X:Array Value)(g:Nat→Nat→Int)(w:World)(hen:∀args x,(callFunc fn args).run Tryz.prog x=.ok (.enter fn args) x)(hg:Yk6 fn X g w):Calls Tryz.prog 129 #[.func (.func fn) #[.agg X] #[]] w (Yb4 64 (fun q=>g (q%8) (q / 8)) w):=by
 obtain⟨Y,hY⟩:∃Y,arn 64 (fun _=>0)=Y:=⟨_,rfl⟩;have hz0:∀w,(zeroValue 162).run Tryz.prog w=.ok (.agg Y) w:=by rw[←hY];exact Yj6
 have HSY:Y.size=64:=by rw[←hY];exact Yar _ _
 obtain⟨B,wA,wB,hB,hwA,hwB,hzA,hzB,hC0,hC1,hbC⟩:=Ygs w (.cells Y 162 (0,0)) (.cells Y 162 (0,0));have hC1:wB.heap[B+1]? =some (Ydn 162 64 (Ynh g 0 0)):=by rw[hC1,←hY];unfold Ydn;rw[←Ybo fun p _=>Ysk g p]
 have HG:=Lib.hid (fun(r:Nat) (hr:r<8) (x:World) (hx:Below B w x)=>(hg r hr x (by rw[hB];exact hx)));have HY:=Lib.hid hY;have HWA:=Lib.hid hwA;have HWB:=Lib.hid hwB;have HB:=Lib.hid hB;clear hY hwA hwB hB hg
 go_enter Tryz.func129,Tryz.ntmps129
 go_wp2
 rw[HWA.out,HB.out,HWB.out]
 go_loopw [7] (fun z wr=>∃r:Nat,r≤8∧z=.int .i64 r∧wr.heap[B]? =some (.cells Y 162 (0,0))∧wr.heap[B+1]? =some (Ydn 162 64 (Ynh g r 0))∧Below B w wr∧B+2≤wr.heap.size) (fun z _=>8-(intOf z).toNat)
 case atStart=>exact⟨0,by omega,rfl,hC0,hC1,hbC,by omega⟩
 case round=>
  clear hC0 hC1 hbC hzA hzB;obtain⟨r,hr8,rfl,h0,h1,hb,hz⟩:=hrel;by_cases hlt:r<8
  ·have t0:decide ((r:Int)<8)=true:=by simp;omega
   have cg:=HG.out r hlt wr hb
   go_wp2_with fail
   refine cg.mono ?_;rintro e w1 ⟨rfl,hb1⟩;have hb2:Below B w w1:=hb.trans (hb1.mono (by omega));have k0:=(hb1.block B (by omega)).trans h0;have k1:=(hb1.block (B+1) (by omega)).trans h1;have hz1:B+2≤w1.heap.size:=Nat.le_trans hz hb1.size;have hidx:=fun(w:World) (i:Nat) (h:i<8)=>Yth (g r) h w;generalize arn 8 (g r)=V at hidx;have HIX:=Lib.hid hidx;clear hidx h0 h1 hb hb1 hz cg
   go_wp2
   go_loopw [13] (fun z wr=>∃c:Nat,c≤8∧z=.int .i64 c∧wr.heap[B]? =some (.cells Y 162 (0,0))∧wr.heap[B+1]? =some (Ydn 162 64 (Ynh g r c))∧Below B w wr∧B+2≤wr.heap.size) (fun z _=>8-(intOf z).toNat)
   case atStart=>exact⟨0,by omega,rfl,k0,k1,hb2,hz1⟩
   case round=>
    clear k0 k1 hb2 hz1;obtain⟨c,hc8,rfl,h0,h1,hb,hz⟩:=hrel;by_cases hlc:c<8
    ·have t1:decide ((c:Int)<8)=true:=by simp;omega
     have hix:=fun w=>HIX.out w c hlc;have b1:8*c+r<64:=by omega
     have c1:=Ydj h1 b1;have ff:=Yfn (i:=8*c+r) h1;have S:=Lib.hid (Ybo (n:=64) fun p _=>Yvz g r c hlt p);generalize g r c=y at hix S;generalize Ynh g r c (8*c+r)=y2 at c1
     have PUT:=Lib.hid (⟨Yba h0 (by simp),by refine(Yg7 y h1).trans ?_;unfold Ydn;rw[S.out],hb.setCell (by simp) _,by simp[World.setCell];omega⟩:(wr.setCell ⟨B+1,8*c+r,none⟩ (.int .i64 y)).heap[B]? =some (.cells Y 162 (0,0))∧(wr.setCell ⟨B+1,8*c+r,none⟩ (.int .i64 y)).heap[B+1]? =some (Ydn 162 64 (Ynh g r (c+1)))∧Below B w (wr.setCell ⟨B+1,8*c+r,none⟩ (.int .i64 y))∧B+2≤(wr.setCell ⟨B+1,8*c+r,none⟩ (.int .i64 y)).heap.size)
     clear h0 h1 hb S
     go_wp2
     go_roundw
     case rel=>exact⟨c+1,by omega,by go_num,PUT.out⟩
     case measure=>simp[intOf];omega
    ·obtain rfl:c=8:=by omega
     have t1:decide ((8:Int)<8)=false:=by simp
     have h1':wr.heap[B+1]? =some (Ydn 162 64 (Ynh g (r+1) 0)):=by
      rw[h1];unfold Ydn;rw[Ybo (Ysj g r)]
     clear h1
     go_wp2
     go_roundw
     case rel=>exact⟨r+1,by omega,by go_num,h0,h1',hb,hz⟩
     case measure=>simp[intOf];omega
  ·obtain rfl:r=8:=by omega
   have t0:decide ((8:Int)<8)=false:=by simp
   obtain⟨V,hV⟩:∃V,arn 64 (Ynh g 8 0)=V:=⟨_,rfl⟩;have HV:=Lib.hid hV;have h1':wr.heap[B+1]? =some (.cells V 162 (0,0)):=by rw[←hV];exact h1
   have HSV:(Tryz.prog.info? 162).map (·.size)=some V.size:=by rw[←hV];exact Yfq _
   have HOV:V.all (·.oneCell')=true:=by rw[←hV];exact Ybz _ _
   have HYV:Y.size=V.size:=by rw[←hV,HSY,Yar]
   clear hV h1
   go_wp2_with (first|(with_reducible refine wpList_load_row rfl 162 _ rfl (B+1) rfl 162 V (0,0) _ h1' Tryz.underlying162 rfl HSV ?_)|(with_reducible refine Yad rfl 162 _ _ rfl B V Y rfl rfl 162 h0 HSV HYV HOV ?_;intro w2 hh2 hg2))
   refine bodyPost_ret (results_cell_row rfl _ _ B 162 _ (0,0) _ rfl hh2 Tryz.underlying162 rfl HSV) rfl ?_;exact Yfo (Yvy g) HV.out (by rw[HB.out];exact hb.grown hg2 (by omega) (fun k hk=>by injection hk with hk;omega))
set_option maxRecDepth 100000 in
set_option maxHeartbeats 2000000 in
theorem Ymc (f:Nat→Int)(lo hi:Int)(w:World):Calls Tryz.prog 132 #[.agg (arn 64 f),.int .i64 lo,.int .i64 hi] w (Yb4 64 (rdB lo hi f) w):=by
 obtain⟨X,hX⟩:∃X,arn 64 f=X:=⟨_,rfl⟩;obtain⟨Y,hY⟩:∃Y,arn 64 (fun _=>0)=Y:=⟨_,rfl⟩;have hidx:=fun(w:World) (i:Nat) (h:i<64)=>Yr2 f h w;have hz0:∀w,(zeroValue 60).run Tryz.prog w=.ok (.agg Y) w:=by rw[←hY];exact Yb5
 have HSY:Y.size=64:=by rw[←hY];exact Yar _ _
 have HSX:(Tryz.prog.info? 162).map (·.size)=some X.size:=by rw[←hX];exact Yfq _
 obtain⟨B,wA,wB,wC,hB,hwA,hwB,hwC,hzA,hzB,hzC,hC0,hC1,hC2,hbC⟩:=Yic w (.cells X 162 (0,0)) (.cells Y 60 (0,0)) (.cells Y 60 (0,0));have hC2:wC.heap[B+2]? =some (Ydn 60 64 (Ybn (rdB lo hi f) 0)):=by rw[hC2,←hY];rfl
 rw[hX];rw[hX] at hidx;have HIX:=Lib.hid hidx;have HY:=Lib.hid hY;have HWA:=Lib.hid hwA;have HWB:=Lib.hid hwB;have HWC:=Lib.hid hwC;have HB:=Lib.hid hB;clear hX hY hidx hwA hwB hwC hB
 go_enter Tryz.func132,Tryz.ntmps132
 go_wp2_with (rw[HWA.out,HB.out,HWB.out,HWC.out];with_reducible refine wpList_load_row rfl 162 _ rfl B rfl 162 X (0,0) _ hC0 Tryz.underlying162 rfl HSX ?_)
 go_loopw [11] (fun z wr=>∃i:Nat,i≤64∧z=.int .i64 i∧wr.heap[B+1]? =some (.cells Y 60 (0,0))∧wr.heap[B+2]? =some (Ydn 60 64 (Ybn (rdB lo hi f) i))∧Below B w wr∧B+3≤wr.heap.size) (fun z _=>64-(intOf z).toNat)
 case atStart=>exact⟨0,by omega,rfl,hC1,hC2,hbC,by omega⟩
 case round=>
  clear hC0 hC1 hC2 hbC hzA hzB hzC;obtain⟨i,hi64,rfl,h1,h2,hb,hz⟩:=hrel;by_cases hlt:i<64
  ·have hix:=fun w=>HIX.out w i hlt;have t0:decide ((i:Int)<64)=true:=by simp;omega
   have S:=Lib.hid (show Ybn (rdB lo hi f) (i+1)=Ycw (Ybn (rdB lo hi f) i) i (Yay (round (f i) 15) lo hi) from rfl);have cr:=fun w=>Yjf (f i) 15 w;have cv:=fun w=>Ya1 (round (f i) 15) lo hi w;generalize Yay (round (f i) 15) lo hi=y at cv S;generalize round (f i) 15=y1 at cv cr;generalize f i=x at cr hix;have c2:=Ydj h2 hlt;have ff:=Yfn (i:=i) h2;generalize Ybn (rdB lo hi f) i i=y2 at c2
   have PUT:=Lib.hid (⟨Yba h1 (by simp),by rw[S.out];exact Yg7 y h2,hb.setCell (by simp) _,by simp[World.setCell];omega⟩:(wr.setCell ⟨B+2,i,none⟩ (.int .i64 y)).heap[B+1]? =some (.cells Y 60 (0,0))∧(wr.setCell ⟨B+2,i,none⟩ (.int .i64 y)).heap[B+2]? =some (Ydn 60 64 (Ybn (rdB lo hi f) (i+1)))∧Below B w (wr.setCell ⟨B+2,i,none⟩ (.int .i64 y))∧B+3≤(wr.setCell ⟨B+2,i,none⟩ (.int .i64 y)).heap.size)
   clear h1 h2 hb
   go_wp2_with (first|(with_reducible refine(cr _).mono ?_;rintro e w1 ⟨rfl,rfl⟩)|(with_reducible refine(cv _).mono ?_;rintro e w1 ⟨rfl,rfl⟩))
   go_roundw
   case rel=>exact⟨i+1,by omega,by go_num,PUT.out⟩
   case measure=>simp[intOf] <;> omega
  ·obtain rfl:i=64:=by omega
   have t0:decide ((64:Int)<64)=false:=by simp
   obtain⟨V,hV⟩:∃V,arn 64 (Ybn (rdB lo hi f) 64)=V:=⟨_,rfl⟩;have HV:=Lib.hid hV;have h2':wr.heap[B+2]? =some (.cells V 60 (0,0)):=by rw[←hV];exact h2
   have HSV:(Tryz.prog.info? 60).map (·.size)=some V.size:=by rw[←hV];exact Yau _
   have HOV:V.all (·.oneCell')=true:=by rw[←hV];exact Ybz _ _
   have HYV:Y.size=V.size:=by rw[←hV,HSY,Yar]
   clear hV h2
   go_wp2_with (first|(with_reducible refine wpList_load_row rfl 60 _ rfl (B+2) rfl 60 V (0,0) _ h2' Tryz.underlying60 rfl HSV ?_)|(with_reducible refine Yad rfl 60 _ _ rfl (B+1) V Y rfl rfl 60 h1 HSV HYV HOV ?_;intro w2 hh2 hg2))
   refine bodyPost_ret (results_cell_row rfl _ _ (B+1) 60 _ (0,0) _ rfl hh2 Tryz.underlying60 rfl HSV) rfl ?_;exact Yfo (Ydu 64 (rdB lo hi f)) HV.out (by rw[HB.out];exact hb.grown hg2 (by omega) (fun k hk=>by injection hk with hk;omega))
theorem Ysw (b:Nat→Int)(M:Int)(w:World)(hM:M≤1099511627776)(hin:InB M b)(hp:Yck w):Yk6 131 (arn 64 b) (Yjg kI b) w:=fun r hr x hx=>Yv8 b r M x hr hM hin (hp.below hx)
theorem Ysv:∀args x,(callFunc 131 args).run Tryz.prog x=.ok (.enter 131 args) x:=Yov Tryz.func131 (by kernel_rfl) rfl
theorem Yju (b:Nat→Int)(M:Int)(w:World)(hM:M≤1099511627776)(hin:InB M b)(hp:Yck w):Calls Tryz.prog 129 #[.func (.func 131) #[.agg (arn 64 b)] #[]] w (Yb4 64 (Ydq kI b) w):=Yn8 131 (arn 64 b) (Yjg kI b) w Ysv (Ysw b M w hM hin hp)
theorem Yn1 (f:Nat→Int)(w:World):Calls Tryz.prog 132 #[.agg (arn 64 (Ydq kI (Ydq kI (Ycu f)))),.int .i64 (-256),.int .i64 255] w (Yb4 64 (Ysu f) w):=Ymc (Ydq kI (Ydq kI (Ycu f))) (-256) 255 w
set_option maxRecDepth 100000 in
set_option maxHeartbeats 2000000 in
theorem Yl0 (f:Nat→Int)(w:World)(hp:Yck w):Calls Tryz.prog 103 #[.agg (Ya7 f)] w (Yb4 64 (Ysu f) w):=by
 obtain⟨X,hX⟩:∃X,Ya7 f=X:=⟨_,rfl⟩;obtain⟨Y,hY⟩:∃Y,arn 64 (fun _=>0)=Y:=⟨_,rfl⟩;have hzb:∀w,(zeroValue 162).run Tryz.prog w=.ok (.agg Y) w:=by rw[←hY];exact Yj6
 have hza:∀w,(zeroValue 60).run Tryz.prog w=.ok (.agg Y) w:=by rw[←hY];exact Yb5
 have HSX:(Tryz.prog.info? 60).map (·.size)=some X.size:=by rw[←hX];exact Yau _
 have hmf:∀(fn:Fn) (first cap:Array Value) (w:World),(Instr.makeFunc fn first cap).run Tryz.prog w=.ok (.func fn first cap) w:=fun _ _ _ _=>rfl;obtain⟨B,wA,wB,hB,hwA,hwB,hzA,hzB,hC0,hC1,hbC⟩:=Ygs w (.cells X 60 (0,0)) (.cells Y 60 (0,0));have HP:=Lib.hid (fun(x:World) (hx:Below B w x)=>hp.below (by rw[hB];exact hx));have C1:=Lib.hid (fun x=>Yll f x)
 have C2:=Lib.hid (fun x (hx:Yck x)=>Yju (Ycu f) 2048 x (by omega) (Yoo f) hx);have C3:=Lib.hid (fun x (hx:Yck x)=>Yju (Ydq kI (Ycu f)) (712*2048) x (by omega) (Yxk Yyx (Yoo f)) hx);have C4:=Lib.hid (fun x=>Yn1 f x);rw[hX] at C1;have HSV:(Tryz.prog.info? 162).map (·.size)=some (arn 64 (Ydq kI (Ycu f))).size:=Yfq _;have HOV:=Ybz 64 (Ydq kI (Ycu f))
 have HYV:Y.size=(arn 64 (Ydq kI (Ycu f))).size:=by rw[←hY,Yar,Yar]
 have HSR:(Tryz.prog.info? 60).map (·.size)=some (arn 64 (Ysu f)).size:=Yau _;have HOR:=Ybz 64 (Ysu f);have HYR:Y.size=(arn 64 (Ysu f)).size:=by rw[←hY,Yar,Yar]
 unfold Yb4 at C1 C2 C3 C4;rw[hX];generalize hV4:arn 64 (Ysu f)=V4 at C4 HSR HOR HYR;have HV4:=Lib.hid hV4;generalize arn 64 (Ydq kI (Ydq kI (Ycu f)))=V3 at C3 C4;generalize arn 64 (Ydq kI (Ycu f))=V2 at C2 C3 HSV HOV HYV;generalize arn 64 (Ycu f)=V1 at C1 C2;have HY:=Lib.hid hY;have HWA:=Lib.hid hwA;have HWB:=Lib.hid hwB;have HB:=Lib.hid hB;clear hX hY hwA hwB hB hp hzA hV4
 go_enter Tryz.func103,Tryz.ntmps103
 go_wp2_with (rw[HWA.out,HB.out,HWB.out];with_reducible refine wpList_load_row rfl 60 _ rfl B rfl 60 X (0,0) _ hC0 Tryz.underlying60 rfl HSX ?_)
 refine(C1.out _).mono ?_;rintro e w1 ⟨rfl,hb1⟩;have hw1:=hbC.trans (hb1.mono (by omega));have h11:=(hb1.block (B+1) (by omega)).trans hC1;have hz1:B+2≤w1.heap.size:=by have:=hb1.size;omega
 clear hb1 hC0 hC1 hbC hzB
 go_wp2_with fail
 refine(C2.out _ (HP.out _ hw1)).mono ?_;rintro e w2 ⟨rfl,hb2⟩;have hw2:=hw1.trans (hb2.mono (by omega));have h21:=(hb2.block (B+1) (by omega)).trans h11;have hz2:B+2≤w2.heap.size:=by have:=hb2.size;omega
 clear hb2 hw1 h11 hz1;have HH:=Lib.hid h21;have hwS:Below B w (w2.alloc (.cells V2 162 (0,0))):=hw2.alloc (by omega) _;have hS1:(w2.alloc (.cells V2 162 (0,0))).heap[B+1]? =some (.cells Y 60 (0,0)):=Yaq h21;have hS2:(w2.alloc (.cells V2 162 (0,0))).heap[w2.heap.size]? =some (.cells V2 162 (0,0)):=heap_alloc_new w2 _;have hzS:B+2≤(w2.alloc (.cells V2 162 (0,0))).heap.size:=by simp;omega
 obtain⟨w3,hw3⟩:∃w3,w2.alloc (.cells V2 162 (0,0))=w3:=⟨_,rfl⟩;rw[hw3] at hwS hS1 hS2 hzS;have HW3:=Lib.hid hw3;clear hw2 h21 HH hw3 hz2
 go_wp2_with (first|(with_reducible refine Yaf rfl 162 _ _ rfl V2 Y 162 rfl rfl HSV HYV HOV ?_;rw[HW3.out])|(with_reducible refine wpList_load_row rfl 162 _ rfl w2.heap.size rfl 162 V2 (0,0) _ hS2 Tryz.underlying162 rfl HSV ?_))
 refine(C3.out _ (HP.out _ hwS)).mono ?_;rintro e w4 ⟨rfl,hb4⟩;have hw4:=hwS.trans (hb4.mono (by omega));have h41:=(hb4.block (B+1) (by omega)).trans hS1;have hz4:B+2≤w4.heap.size:=by have:=hb4.size;omega
 clear hb4 hwS hS1 hS2 hzS HW3
 go_wp2_with fail
 refine(C4.out _).mono ?_;rintro e w5 ⟨rfl,hb5⟩;have hw5:=hw4.trans (hb5.mono (by omega));have h51:=(hb5.block (B+1) (by omega)).trans h41;have hz5:B+2≤w5.heap.size:=by have:=hb5.size;omega
 clear hb5 hw4 h41 hz4
 go_wp2_with (with_reducible refine Yad rfl 60 _ _ rfl (B+1) V4 Y rfl rfl 60 h51 HSR HYR HOR ?_;intro w6 hh6 hg6)
 refine bodyPost_ret (results_cell_row rfl _ _ (B+1) 60 _ (0,0) _ rfl hh6 Tryz.underlying60 rfl HSR) rfl ?_;exact⟨by rw[HV4.out],by rw[HB.out];exact hw5.grown hg6 (by omega) (fun k hk=>by injection hk with hk;omega)⟩
theorem Yup:(Rows.laid_overspill_scan_places:DataW Unit)=tabData .i64 (Yo4.map fun z:Nat=>(z:Int)):=by kernel_rfl
theorem Yy6 (l:List Nat)(i:Nat)(h:i<(l.map fun z:Nat=>(z:Int)).length):(l.map fun z:Nat=>(z:Int))[i]=((l[i]?.getD 0:Nat):Int):=by
 have h2:i<l.length:=by simpa using h
 rw[List.getElem_map,List.getElem?_eq_getElem h2]
 rfl
theorem Yuo {laid : List (String × DataW Unit)} {W : World} (hL : laidMetH Tryz.prog laid W) (hm : ("overspill/scan.places", Rows.laid_overspill_scan_places) ∈ laid ∧ (laid.all fun x => x.2.handleName?.isNone) = true) : Ybt W := by
 rw[MakeChecks.laidMetH_plain _ _ _ hm.2] at hL;obtain⟨ps,hv,_,_⟩:=hL;have h1:=hm.1;rw[Yup] at h1;have hlc:(Yo4.map fun z:Nat=>(z:Int)).length=64:=rfl;intro i hi;have g1:=Ylz hv h1 (g:=3) (t:=60) (by kernel_rfl) (by kernel_rfl) Tryz.underlying60 Tryz.underlying3 (by kernel_rfl) (by kernel_rfl) i (by rw[hlc];exact hi);rw[Yy6] at g1;exact g1
end Go.Proofs.YtnamlooifcpoaaaGreatDoor