/- No condition. -/
import Derived.Test.YtdnjefldijjgdaaGreatDoorRebuildCellsMb
import Derived.Test.YtdnjefldijjgdaaGreatDoorRebuildCellsMi
import Derived.Test.YtdnjefldijjgdaaGreatDoorRebuildCellsMl
import Derived.Test.YtdnjefldijjgdaaGreatDoorRebuildCellsMn
import Derived.WalkMore
import Derived.IntWalk
namespace Go.Proofs.YtdnjefldijjgdaaGreatDoor
open Go.RowKit Go.Lib
theorem Yqr:(Tryz.prog.info? 89).map (·.size)=some 64:=by kernel_rfl
theorem Yev (f:Nat→Int):(Tryz.prog.info? 89).map (·.size)=some (arn 64 f).size:=Ydn Yqr f
theorem Yh2:∀w,(zeroValue 89).run Tryz.prog w=.ok (.agg (arn 64 fun _=>0)) w:=Yeb (by kernel_rfl)
theorem Yn5 (f:Nat→Int){i:Nat}(h:i<64)(w:World):(Instr.index 89 (.agg (arn 64 f)) (.int .i64 (i:Int))).run Tryz.prog w=.ok (.int .i64 (f i)) w:=by
 obtain⟨j,hj⟩:=Ydh;exact Yi1 Tryz.underlying89 hj Ycq Yb2 f h w
theorem Ypb (f:Nat→Int):(Tryz.prog.info? 85).map (·.size)=some (arn 8 f).size:=Ydn (by kernel_rfl) f
theorem Yrr:∀w,(zeroValue 85).run Tryz.prog w=.ok (.agg (arn 8 fun _=>0)) w:=Yeb (by kernel_rfl)
theorem Ypa (f:Nat→Int){i:Nat}(h:i<8)(w:World):(Instr.index 85 (.agg (arn 8 f)) (.int .i64 (i:Int))).run Tryz.prog w=.ok (.int .i64 (f i)) w:=by
 obtain⟨j,hj⟩:=Ydh;exact Yi1 Tryz.underlying85 hj Ycq Yb2 f h w
def Ycw (w:World):Prop:=∀i,i<64→w.cell? ⟨0,i,none⟩=some (.int .i64 (wt i))
theorem Ycw.lt {w:World}(h:Ycw w):0<w.heap.size:=World.block_lt_of_cell? w ⟨0,0,none⟩ (h 0 (by decide))
theorem Ycw.below {w w':World}(h:Ycw w)(hb:Below w.heap.size w w'):Ycw w':=fun i hi=>(hb.cell (p:=⟨0,i,none⟩) h.lt).trans (h i hi)
set_option maxRecDepth 100000 in
set_option maxHeartbeats 2000000 in
theorem Yi7 (f:Nat→Int)(w:World):Calls Tryz.prog 65 #[.agg (Yay f)] w (Ybj 64 (Ybg f) w):=by
 obtain⟨X,hX⟩:∃X,Yay f=X:=⟨_,rfl⟩;obtain⟨Y,hY⟩:∃Y,arn 64 (fun _=>0)=Y:=⟨_,rfl⟩;have hidx:=fun(w:World) (i:Nat) (h:i<64)=>Yf6 f h w;have hz0:∀w,(zeroValue 89).run Tryz.prog w=.ok (.agg Y) w:=by rw[←hY];exact Yh2
 have HSY:Y.size=64:=by rw[←hY];exact Yaj _ _
 have HSX:(Tryz.prog.info? 36).map (·.size)=some X.size:=by rw[←hX];exact Yan _
 obtain⟨B,wA,wB,wC,hB,hwA,hwB,hwC,hzA,hzB,hzC,hC0,hC1,hC2,hbC⟩:=Ykw w (.cells X 36 (0,0)) (.cells Y 89 (0,0)) (.cells Y 89 (0,0));have hC2:wC.heap[B+2]? =some (Yca 89 64 (Ya9 (Ybg f) 0)):=by rw[hC2,←hY];rfl
 rw[hX];rw[hX] at hidx;have HIX:=Lib.hid hidx;have HY:=Lib.hid hY;have HWA:=Lib.hid hwA;have HWB:=Lib.hid hwB;have HWC:=Lib.hid hwC;have HB:=Lib.hid hB;clear hX hY hidx hwA hwB hwC hB
 go_enter Tryz.func65,Tryz.ntmps65
 go_wp2_with (rw[HWA.out,HB.out,HWB.out,HWC.out];with_reducible refine wpList_load_row rfl 36 _ rfl B rfl 36 X (0,0) _ hC0 Tryz.underlying36 rfl HSX ?_)
 go_loopw [7] (fun z wr=>∃i:Nat,i≤64∧z=.int .i64 i∧wr.heap[B+1]? =some (.cells Y 89 (0,0))∧wr.heap[B+2]? =some (Yca 89 64 (Ya9 (Ybg f) i))∧Below B w wr∧B+3≤wr.heap.size) (fun z _=>64-(intOf z).toNat)
 case atStart=>exact⟨0,by omega,rfl,hC1,hC2,hbC,by omega⟩
 case round=>
  clear hC0 hC1 hC2 hbC hzA hzB hzC;obtain⟨i,hi64,rfl,h1,h2,hb,hz⟩:=hrel;by_cases hlt:i<64
  ·have hix:=fun w=>HIX.out w i hlt;have t0:decide ((i:Int)<64)=true:=by simp;omega
   have S:=Lib.hid (show Ya9 (Ybg f) (i+1)=Yb7 (Ya9 (Ybg f) i) i (Ya4 (f i) (-2048) 2047) from rfl);have cv:=fun w=>Ybh (f i) (-2048) 2047 w;generalize Ya4 (f i) (-2048) 2047=y at cv S;generalize f i=x at cv hix;have c2:=Ya7 h2 hlt;have ff:=Yc0 (i:=i) h2;generalize Ya9 (Ybg f) i i=y2 at c2
   have PUT:=Lib.hid (⟨Yaq h1 (by simp),by rw[S.out];exact Ye4 y h2,hb.setCell (by simp) _,by simp[World.setCell];omega⟩:(wr.setCell ⟨B+2,i,none⟩ (.int .i64 y)).heap[B+1]? =some (.cells Y 89 (0,0))∧(wr.setCell ⟨B+2,i,none⟩ (.int .i64 y)).heap[B+2]? =some (Yca 89 64 (Ya9 (Ybg f) (i+1)))∧Below B w (wr.setCell ⟨B+2,i,none⟩ (.int .i64 y))∧B+3≤(wr.setCell ⟨B+2,i,none⟩ (.int .i64 y)).heap.size)
   clear h1 h2 hb
   go_wp2_with (with_reducible refine(cv _).mono ?_;rintro e w1 ⟨rfl,rfl⟩)
   go_roundw
   case rel=>exact⟨i+1,by omega,by go_num,PUT.out⟩
   case measure=>simp[intOf] <;> omega
  ·obtain rfl:i=64:=by omega
   have t0:decide ((64:Int)<64)=false:=by simp
   obtain⟨V,hV⟩:∃V,arn 64 (Ya9 (Ybg f) 64)=V:=⟨_,rfl⟩;have HV:=Lib.hid hV;have h2':wr.heap[B+2]? =some (.cells V 89 (0,0)):=by rw[←hV];exact h2
   have HSV:(Tryz.prog.info? 89).map (·.size)=some V.size:=by rw[←hV];exact Yev _
   have HOV:V.all (·.oneCell')=true:=by rw[←hV];exact Yau _ _
   have HYV:Y.size=V.size:=by rw[←hV,HSY,Yaj]
   clear hV h2
   go_wp2_with (first|(with_reducible refine wpList_load_row rfl 89 _ rfl (B+2) rfl 89 V (0,0) _ h2' Tryz.underlying89 rfl HSV ?_)|(with_reducible refine Yad rfl 89 _ _ rfl (B+1) V Y rfl rfl 89 h1 HSV HYV HOV ?_;intro w2 hh2 hg2))
   refine bodyPost_ret (results_cell_row rfl _ _ (B+1) 89 _ (0,0) _ rfl hh2 Tryz.underlying89 rfl HSV) rfl ?_;exact Ydm (Ych 64 (Ybg f)) HV.out (by rw[HB.out];exact hb.grown hg2 (by omega) (fun k hk=>by injection hk with hk;omega))
set_option maxRecDepth 100000 in
set_option maxHeartbeats 2000000 in
theorem Yre (b:Nat→Int)(r:Nat)(M:Int)(w:World)(hr:r<8)(hM:M≤1099511627776)(hin:InB M b)(hp:Ycw w):Calls Tryz.prog 66 #[.agg (arn 64 b),.int .i64 (r:Int)] w (Ybj 8 (Yg7 kI b r) w):=by
 obtain⟨X,hX⟩:∃X,arn 64 b=X:=⟨_,rfl⟩;obtain⟨Y,hY⟩:∃Y,arn 8 (fun _=>0)=Y:=⟨_,rfl⟩;have hz0:∀w,(zeroValue 85).run Tryz.prog w=.ok (.agg Y) w:=by rw[←hY];exact Yrr
 have HSY:Y.size=8:=by rw[←hY];exact Yaj _ _
 obtain⟨B,wA,wB,wC,hB,hwA,hwB,hwC,hzA,hzB,hzC,hC0,hC1,hC2,hbC⟩:=Ykw w (.cells X 89 (0,0)) (.cells Y 85 (0,0)) (.cells Y 85 (0,0));have hC0:wC.heap[B]? =some (Yca 89 64 b):=by rw[hC0,←hX];rfl
 have hC2:wC.heap[B+2]? =some (Yca 85 8 (Ya9 (Yg7 kI b r) 0)):=by rw[hC2,←hY];rfl
 have HP:=Lib.hid (fun(x:World) (hx:Below B w x)=>hp.below (by rw[hB];exact hx));rw[hX];have HY:=Lib.hid hY;have HWA:=Lib.hid hwA;have HWB:=Lib.hid hwB;have HWC:=Lib.hid hwC;have HB:=Lib.hid hB;clear hX hY hwA hwB hwC hB hp
 go_enter Tryz.func66,Tryz.ntmps66
 go_wp2
 rw[HWA.out,HB.out,HWB.out,HWC.out]
 go_loopw [8] (fun z wr=>∃u:Nat,u≤8∧z=.int .i64 u∧wr.heap[B]? =some (Yca 89 64 b)∧wr.heap[B+1]? =some (.cells Y 85 (0,0))∧wr.heap[B+2]? =some (Yca 85 8 (Ya9 (Yg7 kI b r) u))∧Below B w wr∧B+3≤wr.heap.size) (fun z _=>8-(intOf z).toNat)
 case atStart=>exact⟨0,by omega,rfl,hC0,hC1,hC2,hbC,by omega⟩
 case round=>
  clear hC0 hC1 hC2 hbC hzA hzB hzC;obtain⟨u,hu8,rfl,h0,h1,h2,hb,hz⟩:=hrel;by_cases hlt:u<8
  ·have t0:decide ((u:Int)<8)=true:=by simp;omega
   have h2:wr.heap[B+2]? =some (Yca 85 8 (Yb7 (Ya9 (Yg7 kI b r) u) u (Ycg 0 fun x=>kI u x*b (8*r+x)))):=by
    rw[h2];unfold Yca;rw[←Ybq fun p _=>Yps (Yg7 kI b r) u p]
    rfl
   go_wp2
   go_loopw [11] (fun z wq=>∃x:Nat,x≤8∧z=.int .i64 x∧wq.heap[B]? =some (Yca 89 64 b)∧wq.heap[B+1]? =some (.cells Y 85 (0,0))∧wq.heap[B+2]? =some (Yca 85 8 (Yb7 (Ya9 (Yg7 kI b r) u) u (Ycg x fun x=>kI u x*b (8*r+x))))∧Below B w wq∧B+3≤wq.heap.size) (fun z _=>8-(intOf z).toNat)
   case atStart=>exact⟨0,by omega,rfl,h0,h1,h2,hb,hz⟩
   case round=>
    clear h0 h1 h2 hb hz;obtain⟨x,hx8,rfl,h0,h1,h2,hb,hz⟩:=hrel;by_cases hlx:x<8
    ·have t1:decide ((x:Int)<8)=true:=by simp;omega
     have m1:=Ypy Yo3 hin r u hr hlt x hx8;have m2:=Yo3 u x hlt hlx;have m3:=hin (8*r+x) (by omega);have m4:=Ydp m2.1 m2.2 m3.1 m3.2;have c0:=Ya7 h0 (show 8*r+x<64 by omega);have c1:=HP.out wr hb (8*x+u) (by omega);have c2:=Ya7 h2 hlt;rw[Ytk] at c2;have ff:=Yc0 (i:=u) h2
     have S:=Lib.hid (show Yb7 (Ya9 (Yg7 kI b r) u) u (Ycg (x+1) fun x=>kI u x*b (8*r+x))=Yb7 (Yb7 (Ya9 (Yg7 kI b r) u) u (Ycg x fun x=>kI u x*b (8*r+x))) u (Ycg x (fun x=>kI u x*b (8*r+x))+kI u x*b (8*r+x)) by rw[Ynk];rfl);have e1:Ycg x (fun x=>kI u x*b (8*r+x))+kI u x*b (8*r+x)=Ycg x (fun x=>kI u x*b (8*r+x))+wt (8*x+u)*b (8*r+x):=rfl;rw[e1] at S
     have m5:-89*M≤wt (8*x+u)*b (8*r+x)∧wt (8*x+u)*b (8*r+x)≤89*M:=by
      have:wt (8*x+u)*b (8*r+x)=kI u x*b (8*r+x):=rfl;omega
     generalize Ycg x (fun x=>kI u x*b (8*r+x))=y at c2 S m1 h2;generalize b (8*r+x)=z1 at c0 S m5;generalize wt (8*x+u)=z2 at c1 S m5;obtain⟨z3,hz3⟩:∃z3,z2*z1=z3:=⟨_,rfl⟩;rw[hz3] at S m5;have Z3:=Lib.hid hz3;have q1:wrap64 (z2*z1)=z3:=by rw[hz3];exact IntWalk.wrap64_in z3 (by omega)
     have q2:wrap64 (y+z3)=y+z3:=IntWalk.wrap64_in (y+z3) (by omega)
     have PUT:=Lib.hid (fun(w2:World) (e:(wr.setCell ⟨B+1+1,u,none⟩ (.int .i64 (y+z3))).drew=w2)=>(by subst e;exact⟨Yaq (a:=⟨B+1+1,u,none⟩) h0 (by simp;omega),Yaq (a:=⟨B+1+1,u,none⟩) h1 (by simp),by rw[S.out];exact Ye4 (y+z3) h2,(hb.setCell (p:=⟨B+1+1,u,none⟩) (by simp;omega) _).drew,by simp[World.setCell,World.drew];omega⟩:w2.heap[B]? =some (Yca 89 64 b)∧w2.heap[B+1]? =some (.cells Y 85 (0,0))∧w2.heap[B+2]? =some (Yca 85 8 (Yb7 (Ya9 (Yg7 kI b r) u) u (Ycg (x+1) fun x=>kI u x*b (8*r+x))))∧Below B w w2∧B+3≤w2.heap.size))
     have b1:(8*r+x:Nat)<64:=by omega
     have b2:(8*x+u:Nat)<64:=by omega
     have Q1:=Lib.hid q1;have Q2:=Lib.hid q2;clear h0 h1 h2 hb m2 m3 m4 hz3 S e1 q1 q2
     go_wp2
     go_region
     rw[Q1.out,Q2.out];generalize hw2:(wr.setCell _ _).drew=w2;have F:=PUT.out w2 hw2;clear hw2 PUT Q1 Q2 c0 c1 c2 ff
     go_wp2
     go_roundw
     case rel=>exact⟨x+1,by omega,by go_num,F⟩
     case measure=>simp[intOf];omega
    ·obtain rfl:x=8:=by omega
     have t1:decide ((8:Int)<8)=false:=by simp
     have h2':wr.heap[B+2]? =some (Yca 85 8 (Ya9 (Yg7 kI b r) (u+1))):=h2;clear h2
     go_wp2
     go_roundw
     case rel=>exact⟨u+1,by omega,by go_num,h0,h1,h2',hb,hz⟩
     case measure=>simp[intOf];omega
  ·obtain rfl:u=8:=by omega
   have t0:decide ((8:Int)<8)=false:=by simp
   obtain⟨V,hV⟩:∃V,arn 8 (Ya9 (Yg7 kI b r) 8)=V:=⟨_,rfl⟩;have HV:=Lib.hid hV;have h2':wr.heap[B+2]? =some (.cells V 85 (0,0)):=by rw[←hV];exact h2
   have HSV:(Tryz.prog.info? 85).map (·.size)=some V.size:=by rw[←hV];exact Ypb _
   have HOV:V.all (·.oneCell')=true:=by rw[←hV];exact Yau _ _
   have HYV:Y.size=V.size:=by rw[←hV,HSY,Yaj]
   clear hV h2
   go_wp2_with (first|(with_reducible refine wpList_load_row rfl 85 _ rfl (B+2) rfl 85 V (0,0) _ h2' Tryz.underlying85 rfl HSV ?_)|(with_reducible refine Yad rfl 85 _ _ rfl (B+1) V Y rfl rfl 85 h1 HSV HYV HOV ?_;intro w2 hh2 hg2))
   refine bodyPost_ret (results_cell_row rfl _ _ (B+1) 85 _ (0,0) _ rfl hh2 Tryz.underlying85 rfl HSV) rfl ?_;exact Ydm (Ych 8 (Yg7 kI b r)) HV.out (by rw[HB.out];exact hb.grown hg2 (by omega) (fun k hk=>by injection hk with hk;omega))
theorem Ylt {f : FuncId} {fn : Func} {c : Code} (hf : Tryz.prog.funcs[f]? = some fn) (hname : (fn.name == "runtime.NumGoroutine") = false) (hb : fn.body = some c) (args : Array Value) (w : World) : (callFunc f args).run Tryz.prog w = .ok (.enter f args) w := by
 have h1 : fn.name ≠ "runtime.NumGoroutine" := by simpa using hname
 simp[callFunc,hf,h1,hb]
def Yiy (fn:FuncId)(X:Array Value)(g:Nat→Nat→Int)(w:World):Prop:=∀(r:Nat),r<8→∀x,Below w.heap.size w x→Calls Tryz.prog fn #[.agg X,.int .i64 (r:Int)] x (Ybj 8 (g r) x)
def Ykq (g:Nat→Nat→Int)(r c p:Nat):Int:=if p%8<r∨(p%8=r∧p / 8<c) then g (p%8) (p / 8) else 0
theorem Yoi (g:Nat→Nat→Int):∀p,Ykq g 0 0 p=0:=fun p=>if_neg (by omega)
theorem Yq1 (g:Nat→Nat→Int)(r c:Nat)(hr:r<8):∀p,Yb7 (Ykq g r c) (8*c+r) (g r c) p=Ykq g r (c+1) p:=by
 intro p;unfold Yb7 Ykq;by_cases e:p=8*c+r
 ·rw[if_pos e,if_pos (by omega),show p%8=r by omega,show p / 8=c by omega]
 ·rw[if_neg e];by_cases h:p%8<r∨(p%8=r∧p / 8<c)
  ·rw[if_pos h,if_pos (by omega)]
  ·rw[if_neg h,if_neg (by omega)]
theorem Yoh (g:Nat→Nat→Int)(r:Nat):∀p,p<64→Ykq g r 8 p=Ykq g (r+1) 0 p:=by
 intro p hp;unfold Ykq;by_cases h:p%8<r∨(p%8=r∧p / 8<8)
 ·rw[if_pos h,if_pos (by omega)]
 ·rw[if_neg h,if_neg (by omega)]
theorem Yq0 (g:Nat→Nat→Int):∀p,p<64→Ykq g 8 0 p=g (p%8) (p / 8):=fun p _=>if_pos (by omega)
set_option maxRecDepth 100000 in
set_option maxHeartbeats 2000000 in
theorem Ylb (fn:FuncId)(X:Array Value)(g:Nat→Nat→Int)(w:World)(hen:∀args x,(callFunc fn args).run Tryz.prog x=.ok (.enter fn args) x)(hg:Yiy fn X g w):Calls Tryz.prog 64 #[.func (.func fn) #[.agg X] #[]] w (Ybj 64 (fun q=>g (q%8) (q / 8)) w):=by
 obtain⟨Y,hY⟩:∃Y,arn 64 (fun _=>0)=Y:=⟨_,rfl⟩;have hz0:∀w,(zeroValue 89).run Tryz.prog w=.ok (.agg Y) w:=by rw[←hY];exact Yh2
 have HSY:Y.size=64:=by rw[←hY];exact Yaj _ _
 obtain⟨B,wA,wB,hB,hwA,hwB,hzA,hzB,hC0,hC1,hbC⟩:=Yex w (.cells Y 89 (0,0)) (.cells Y 89 (0,0));have hC1:wB.heap[B+1]? =some (Yca 89 64 (Ykq g 0 0)):=by rw[hC1,←hY];unfold Yca;rw[←Ybq fun p _=>Yoi g p]
 have HG:=Lib.hid (fun(r:Nat) (hr:r<8) (x:World) (hx:Below B w x)=>(hg r hr x (by rw[hB];exact hx)));have HY:=Lib.hid hY;have HWA:=Lib.hid hwA;have HWB:=Lib.hid hwB;have HB:=Lib.hid hB;clear hY hwA hwB hB hg
 go_enter Tryz.func64,Tryz.ntmps64
 go_wp2
 rw[HWA.out,HB.out,HWB.out]
 go_loopw [7] (fun z wr=>∃r:Nat,r≤8∧z=.int .i64 r∧wr.heap[B]? =some (.cells Y 89 (0,0))∧wr.heap[B+1]? =some (Yca 89 64 (Ykq g r 0))∧Below B w wr∧B+2≤wr.heap.size) (fun z _=>8-(intOf z).toNat)
 case atStart=>exact⟨0,by omega,rfl,hC0,hC1,hbC,by omega⟩
 case round=>
  clear hC0 hC1 hbC hzA hzB;obtain⟨r,hr8,rfl,h0,h1,hb,hz⟩:=hrel;by_cases hlt:r<8
  ·have t0:decide ((r:Int)<8)=true:=by simp;omega
   have cg:=HG.out r hlt wr hb
   go_wp2_with fail
   refine cg.mono ?_;rintro e w1 ⟨rfl,hb1⟩;have hb2:Below B w w1:=hb.trans (hb1.mono (by omega));have k0:=(hb1.block B (by omega)).trans h0;have k1:=(hb1.block (B+1) (by omega)).trans h1;have hz1:B+2≤w1.heap.size:=Nat.le_trans hz hb1.size;have hidx:=fun(w:World) (i:Nat) (h:i<8)=>Ypa (g r) h w;generalize arn 8 (g r)=V at hidx;have HIX:=Lib.hid hidx;clear hidx h0 h1 hb hb1 hz cg
   go_wp2
   go_loopw [13] (fun z wr=>∃c:Nat,c≤8∧z=.int .i64 c∧wr.heap[B]? =some (.cells Y 89 (0,0))∧wr.heap[B+1]? =some (Yca 89 64 (Ykq g r c))∧Below B w wr∧B+2≤wr.heap.size) (fun z _=>8-(intOf z).toNat)
   case atStart=>exact⟨0,by omega,rfl,k0,k1,hb2,hz1⟩
   case round=>
    clear k0 k1 hb2 hz1;obtain⟨c,hc8,rfl,h0,h1,hb,hz⟩:=hrel;by_cases hlc:c<8
    ·have t1:decide ((c:Int)<8)=true:=by simp;omega
     have hix:=fun w=>HIX.out w c hlc;have b1:8*c+r<64:=by omega
     have c1:=Ya7 h1 b1;have ff:=Yc0 (i:=8*c+r) h1;have S:=Lib.hid (Ybq (n:=64) fun p _=>Yq1 g r c hlt p);generalize g r c=y at hix S;generalize Ykq g r c (8*c+r)=y2 at c1
     have PUT:=Lib.hid (⟨Yaq h0 (by simp),by refine(Ye4 y h1).trans ?_;unfold Yca;rw[S.out],hb.setCell (by simp) _,by simp[World.setCell];omega⟩:(wr.setCell ⟨B+1,8*c+r,none⟩ (.int .i64 y)).heap[B]? =some (.cells Y 89 (0,0))∧(wr.setCell ⟨B+1,8*c+r,none⟩ (.int .i64 y)).heap[B+1]? =some (Yca 89 64 (Ykq g r (c+1)))∧Below B w (wr.setCell ⟨B+1,8*c+r,none⟩ (.int .i64 y))∧B+2≤(wr.setCell ⟨B+1,8*c+r,none⟩ (.int .i64 y)).heap.size)
     clear h0 h1 hb S
     go_wp2
     go_roundw
     case rel=>exact⟨c+1,by omega,by go_num,PUT.out⟩
     case measure=>simp[intOf];omega
    ·obtain rfl:c=8:=by omega
     have t1:decide ((8:Int)<8)=false:=by simp
     have h1':wr.heap[B+1]? =some (Yca 89 64 (Ykq g (r+1) 0)):=by
      rw[h1];unfold Yca;rw[Ybq (Yoh g r)]
     clear h1
     go_wp2
     go_roundw
     case rel=>exact⟨r+1,by omega,by go_num,h0,h1',hb,hz⟩
     case measure=>simp[intOf];omega
  ·obtain rfl:r=8:=by omega
   have t0:decide ((8:Int)<8)=false:=by simp
   obtain⟨V,hV⟩:∃V,arn 64 (Ykq g 8 0)=V:=⟨_,rfl⟩;have HV:=Lib.hid hV;have h1':wr.heap[B+1]? =some (.cells V 89 (0,0)):=by rw[←hV];exact h1
   have HSV:(Tryz.prog.info? 89).map (·.size)=some V.size:=by rw[←hV];exact Yev _
   have HOV:V.all (·.oneCell')=true:=by rw[←hV];exact Yau _ _
   have HYV:Y.size=V.size:=by rw[←hV,HSY,Yaj]
   clear hV h1
   go_wp2_with (first|(with_reducible refine wpList_load_row rfl 89 _ rfl (B+1) rfl 89 V (0,0) _ h1' Tryz.underlying89 rfl HSV ?_)|(with_reducible refine Yad rfl 89 _ _ rfl B V Y rfl rfl 89 h0 HSV HYV HOV ?_;intro w2 hh2 hg2))
   refine bodyPost_ret (results_cell_row rfl _ _ B 89 _ (0,0) _ rfl hh2 Tryz.underlying89 rfl HSV) rfl ?_;exact Ydm (Yq0 g) HV.out (by rw[HB.out];exact hb.grown hg2 (by omega) (fun k hk=>by injection hk with hk;omega))
set_option maxRecDepth 100000 in
set_option maxHeartbeats 2000000 in
theorem Yjw (f:Nat→Int)(lo hi:Int)(w:World):Calls Tryz.prog 67 #[.agg (arn 64 f),.int .i64 lo,.int .i64 hi] w (Ybj 64 (rdB lo hi f) w):=by
 obtain⟨X,hX⟩:∃X,arn 64 f=X:=⟨_,rfl⟩;obtain⟨Y,hY⟩:∃Y,arn 64 (fun _=>0)=Y:=⟨_,rfl⟩;have hidx:=fun(w:World) (i:Nat) (h:i<64)=>Yn5 f h w;have hz0:∀w,(zeroValue 36).run Tryz.prog w=.ok (.agg Y) w:=by rw[←hY];exact Ybd
 have HSY:Y.size=64:=by rw[←hY];exact Yaj _ _
 have HSX:(Tryz.prog.info? 89).map (·.size)=some X.size:=by rw[←hX];exact Yev _
 obtain⟨B,wA,wB,wC,hB,hwA,hwB,hwC,hzA,hzB,hzC,hC0,hC1,hC2,hbC⟩:=Ykw w (.cells X 89 (0,0)) (.cells Y 36 (0,0)) (.cells Y 36 (0,0));have hC2:wC.heap[B+2]? =some (Yca 36 64 (Ya9 (rdB lo hi f) 0)):=by rw[hC2,←hY];rfl
 rw[hX];rw[hX] at hidx;have HIX:=Lib.hid hidx;have HY:=Lib.hid hY;have HWA:=Lib.hid hwA;have HWB:=Lib.hid hwB;have HWC:=Lib.hid hwC;have HB:=Lib.hid hB;clear hX hY hidx hwA hwB hwC hB
 go_enter Tryz.func67,Tryz.ntmps67
 go_wp2_with (rw[HWA.out,HB.out,HWB.out,HWC.out];with_reducible refine wpList_load_row rfl 89 _ rfl B rfl 89 X (0,0) _ hC0 Tryz.underlying89 rfl HSX ?_)
 go_loopw [11] (fun z wr=>∃i:Nat,i≤64∧z=.int .i64 i∧wr.heap[B+1]? =some (.cells Y 36 (0,0))∧wr.heap[B+2]? =some (Yca 36 64 (Ya9 (rdB lo hi f) i))∧Below B w wr∧B+3≤wr.heap.size) (fun z _=>64-(intOf z).toNat)
 case atStart=>exact⟨0,by omega,rfl,hC1,hC2,hbC,by omega⟩
 case round=>
  clear hC0 hC1 hC2 hbC hzA hzB hzC;obtain⟨i,hi64,rfl,h1,h2,hb,hz⟩:=hrel;by_cases hlt:i<64
  ·have hix:=fun w=>HIX.out w i hlt;have t0:decide ((i:Int)<64)=true:=by simp;omega
   have S:=Lib.hid (show Ya9 (rdB lo hi f) (i+1)=Yb7 (Ya9 (rdB lo hi f) i) i (Ya4 (round (f i) 15) lo hi) from rfl);have cr:=fun w=>Yhm (f i) 15 w;have cv:=fun w=>Ybh (round (f i) 15) lo hi w;generalize Ya4 (round (f i) 15) lo hi=y at cv S;generalize round (f i) 15=y1 at cv cr;generalize f i=x at cr hix;have c2:=Ya7 h2 hlt;have ff:=Yc0 (i:=i) h2;generalize Ya9 (rdB lo hi f) i i=y2 at c2
   have PUT:=Lib.hid (⟨Yaq h1 (by simp),by rw[S.out];exact Ye4 y h2,hb.setCell (by simp) _,by simp[World.setCell];omega⟩:(wr.setCell ⟨B+2,i,none⟩ (.int .i64 y)).heap[B+1]? =some (.cells Y 36 (0,0))∧(wr.setCell ⟨B+2,i,none⟩ (.int .i64 y)).heap[B+2]? =some (Yca 36 64 (Ya9 (rdB lo hi f) (i+1)))∧Below B w (wr.setCell ⟨B+2,i,none⟩ (.int .i64 y))∧B+3≤(wr.setCell ⟨B+2,i,none⟩ (.int .i64 y)).heap.size)
   clear h1 h2 hb
   go_wp2_with (first|(with_reducible refine(cr _).mono ?_;rintro e w1 ⟨rfl,rfl⟩)|(with_reducible refine(cv _).mono ?_;rintro e w1 ⟨rfl,rfl⟩))
   go_roundw
   case rel=>exact⟨i+1,by omega,by go_num,PUT.out⟩
   case measure=>simp[intOf] <;> omega
  ·obtain rfl:i=64:=by omega
   have t0:decide ((64:Int)<64)=false:=by simp
   obtain⟨V,hV⟩:∃V,arn 64 (Ya9 (rdB lo hi f) 64)=V:=⟨_,rfl⟩;have HV:=Lib.hid hV;have h2':wr.heap[B+2]? =some (.cells V 36 (0,0)):=by rw[←hV];exact h2
   have HSV:(Tryz.prog.info? 36).map (·.size)=some V.size:=by rw[←hV];exact Yan _
   have HOV:V.all (·.oneCell')=true:=by rw[←hV];exact Yau _ _
   have HYV:Y.size=V.size:=by rw[←hV,HSY,Yaj]
   clear hV h2
   go_wp2_with (first|(with_reducible refine wpList_load_row rfl 36 _ rfl (B+2) rfl 36 V (0,0) _ h2' Tryz.underlying36 rfl HSV ?_)|(with_reducible refine Yad rfl 36 _ _ rfl (B+1) V Y rfl rfl 36 h1 HSV HYV HOV ?_;intro w2 hh2 hg2))
   refine bodyPost_ret (results_cell_row rfl _ _ (B+1) 36 _ (0,0) _ rfl hh2 Tryz.underlying36 rfl HSV) rfl ?_;exact Ydm (Ych 64 (rdB lo hi f)) HV.out (by rw[HB.out];exact hb.grown hg2 (by omega) (fun k hk=>by injection hk with hk;omega))
theorem Yo1 (b:Nat→Int)(M:Int)(w:World)(hM:M≤1099511627776)(hin:InB M b)(hp:Ycw w):Yiy 66 (arn 64 b) (Yg7 kI b) w:=fun r hr x hx=>Yre b r M x hr hM hin (hp.below hx)
theorem Yo0:∀args x,(callFunc 66 args).run Tryz.prog x=.ok (.enter 66 args) x:=Ylt Tryz.func66 (by kernel_rfl) rfl
theorem Yho (b:Nat→Int)(M:Int)(w:World)(hM:M≤1099511627776)(hin:InB M b)(hp:Ycw w):Calls Tryz.prog 64 #[.func (.func 66) #[.agg (arn 64 b)] #[]] w (Ybj 64 (Ycj kI b) w):=Ylb 66 (arn 64 b) (Yg7 kI b) w Yo0 (Yo1 b M w hM hin hp)
theorem Yk9 (f:Nat→Int)(w:World):Calls Tryz.prog 67 #[.agg (arn 64 (Ycj kI (Ycj kI (Ybg f)))),.int .i64 (-256),.int .i64 255] w (Ybj 64 (Yfw f) w):=Yjw (Ycj kI (Ycj kI (Ybg f))) (-256) 255 w
set_option maxRecDepth 100000 in
set_option maxHeartbeats 2000000 in
theorem Yjn (f:Nat→Int)(w:World)(hp:Ycw w):Calls Tryz.prog 41 #[.agg (Yay f)] w (Ybj 64 (Yfw f) w):=by
 obtain⟨X,hX⟩:∃X,Yay f=X:=⟨_,rfl⟩;obtain⟨Y,hY⟩:∃Y,arn 64 (fun _=>0)=Y:=⟨_,rfl⟩;have hzb:∀w,(zeroValue 89).run Tryz.prog w=.ok (.agg Y) w:=by rw[←hY];exact Yh2
 have hza:∀w,(zeroValue 36).run Tryz.prog w=.ok (.agg Y) w:=by rw[←hY];exact Ybd
 have HSX:(Tryz.prog.info? 36).map (·.size)=some X.size:=by rw[←hX];exact Yan _
 have hmf:∀(fn:Fn) (first cap:Array Value) (w:World),(Instr.makeFunc fn first cap).run Tryz.prog w=.ok (.func fn first cap) w:=fun _ _ _ _=>rfl;obtain⟨B,wA,wB,hB,hwA,hwB,hzA,hzB,hC0,hC1,hbC⟩:=Yex w (.cells X 36 (0,0)) (.cells Y 36 (0,0));have HP:=Lib.hid (fun(x:World) (hx:Below B w x)=>hp.below (by rw[hB];exact hx));have C1:=Lib.hid (fun x=>Yi7 f x)
 have C2:=Lib.hid (fun x (hx:Ycw x)=>Yho (Ybg f) 2048 x (by omega) (Yfu f) hx);have C3:=Lib.hid (fun x (hx:Ycw x)=>Yho (Ycj kI (Ybg f)) (712*2048) x (by omega) (Ysc Yo3 (Yfu f)) hx);have C4:=Lib.hid (fun x=>Yk9 f x);rw[hX] at C1;have HSV:(Tryz.prog.info? 89).map (·.size)=some (arn 64 (Ycj kI (Ybg f))).size:=Yev _;have HOV:=Yau 64 (Ycj kI (Ybg f))
 have HYV:Y.size=(arn 64 (Ycj kI (Ybg f))).size:=by rw[←hY,Yaj,Yaj]
 have HSR:(Tryz.prog.info? 36).map (·.size)=some (arn 64 (Yfw f)).size:=Yan _;have HOR:=Yau 64 (Yfw f);have HYR:Y.size=(arn 64 (Yfw f)).size:=by rw[←hY,Yaj,Yaj]
 unfold Ybj at C1 C2 C3 C4;rw[hX];generalize hV4:arn 64 (Yfw f)=V4 at C4 HSR HOR HYR;have HV4:=Lib.hid hV4;generalize arn 64 (Ycj kI (Ycj kI (Ybg f)))=V3 at C3 C4;generalize arn 64 (Ycj kI (Ybg f))=V2 at C2 C3 HSV HOV HYV;generalize arn 64 (Ybg f)=V1 at C1 C2;have HY:=Lib.hid hY;have HWA:=Lib.hid hwA;have HWB:=Lib.hid hwB;have HB:=Lib.hid hB;clear hX hY hwA hwB hB hp hzA hV4
 go_enter Tryz.func41,Tryz.ntmps41
 go_wp2_with (rw[HWA.out,HB.out,HWB.out];with_reducible refine wpList_load_row rfl 36 _ rfl B rfl 36 X (0,0) _ hC0 Tryz.underlying36 rfl HSX ?_)
 refine(C1.out _).mono ?_;rintro e w1 ⟨rfl,hb1⟩;have hw1:=hbC.trans (hb1.mono (by omega));have h11:=(hb1.block (B+1) (by omega)).trans hC1;have hz1:B+2≤w1.heap.size:=by have:=hb1.size;omega
 clear hb1 hC0 hC1 hbC hzB
 go_wp2_with fail
 refine(C2.out _ (HP.out _ hw1)).mono ?_;rintro e w2 ⟨rfl,hb2⟩;have hw2:=hw1.trans (hb2.mono (by omega));have h21:=(hb2.block (B+1) (by omega)).trans h11;have hz2:B+2≤w2.heap.size:=by have:=hb2.size;omega
 clear hb2 hw1 h11 hz1;have HH:=Lib.hid h21;have hwS:Below B w (w2.alloc (.cells V2 89 (0,0))):=hw2.alloc (by omega) _;have hS1:(w2.alloc (.cells V2 89 (0,0))).heap[B+1]? =some (.cells Y 36 (0,0)):=Yao h21;have hS2:(w2.alloc (.cells V2 89 (0,0))).heap[w2.heap.size]? =some (.cells V2 89 (0,0)):=heap_alloc_new w2 _;have hzS:B+2≤(w2.alloc (.cells V2 89 (0,0))).heap.size:=by simp;omega
 obtain⟨w3,hw3⟩:∃w3,w2.alloc (.cells V2 89 (0,0))=w3:=⟨_,rfl⟩;rw[hw3] at hwS hS1 hS2 hzS;have HW3:=Lib.hid hw3;clear hw2 h21 HH hw3 hz2
 go_wp2_with (first|(with_reducible refine Yap rfl 89 _ _ rfl V2 Y 89 rfl rfl HSV HYV HOV ?_;rw[HW3.out])|(with_reducible refine wpList_load_row rfl 89 _ rfl w2.heap.size rfl 89 V2 (0,0) _ hS2 Tryz.underlying89 rfl HSV ?_))
 refine(C3.out _ (HP.out _ hwS)).mono ?_;rintro e w4 ⟨rfl,hb4⟩;have hw4:=hwS.trans (hb4.mono (by omega));have h41:=(hb4.block (B+1) (by omega)).trans hS1;have hz4:B+2≤w4.heap.size:=by have:=hb4.size;omega
 clear hb4 hwS hS1 hS2 hzS HW3
 go_wp2_with fail
 refine(C4.out _).mono ?_;rintro e w5 ⟨rfl,hb5⟩;have hw5:=hw4.trans (hb5.mono (by omega));have h51:=(hb5.block (B+1) (by omega)).trans h41;have hz5:B+2≤w5.heap.size:=by have:=hb5.size;omega
 clear hb5 hw4 h41 hz4
 go_wp2_with (with_reducible refine Yad rfl 36 _ _ rfl (B+1) V4 Y rfl rfl 36 h51 HSR HYR HOR ?_;intro w6 hh6 hg6)
 refine bodyPost_ret (results_cell_row rfl _ _ (B+1) 36 _ (0,0) _ rfl hh6 Tryz.underlying36 rfl HSR) rfl ?_;exact⟨by rw[HV4.out],by rw[HB.out];exact hw5.grown hg6 (by omega) (fun k hk=>by injection hk with hk;omega)⟩
end Go.Proofs.YtdnjefldijjgdaaGreatDoor