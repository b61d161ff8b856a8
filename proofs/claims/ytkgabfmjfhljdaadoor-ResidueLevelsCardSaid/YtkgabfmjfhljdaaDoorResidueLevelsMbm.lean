/- No condition. -/
import Derived.Test.YtkgabfmjfhljdaaDoorResidueLevelsMa
import Derived.Test.YtkgabfmjfhljdaaDoorResidueLevelsMg
import Derived.Test.YtkgabfmjfhljdaaDoorResidueLevelsMx
import Derived.Test.YtkgabfmjfhljdaaDoorResidueLevelsMbf
import Derived.Test.YtkgabfmjfhljdaaDoorResidueLevelsMbi
import Derived.Test.YtkgabfmjfhljdaaDoorResidueLevelsMbl
import Derived.RegionTactic
import Derived.WalkMore
namespace Go.Proofs.YtkgabfmjfhljdaaDoor
open Go.RowKit Go.Lib
set_option maxRecDepth 100000 in
theorem Yjo (c:Cel)(p:Nat→Option Addr)(n k:Nat→Nat)(w:World)(hn:∀i,i<6→n i≤maxLen):Calls Tryd.prog 5 #[.agg (Ycc c fun i=>.slice (p i) (n i) (k i)).toArray] w fun e w'=>e=.returned (.bool ((List.range 6).all fun i=>decide (n i≤100)))∧Below w.heap.size w w':=by
 obtain⟨A,hA,-,-,-,-,-,-,-,-⟩:=Ybq c fun i=>.slice (p i) (n i) (k i);obtain⟨R,w0,hR,hw0,hz0,hb0,HSZ,hbx⟩:=Ybx w hA;have EV:=Lib.hid (fun i (hi:i<6)=>Yac (o:=12+i) (hbx w0 (Below.refl _ _)).2 (Yb8 c (fun i=>.slice (p i) (n i) (k i)) i hi));rw[hA];have HW:=Lib.hid hw0;have HR:=Lib.hid hR;have HN:=Lib.hid hn;obtain⟨z,hz⟩:∃z,((List.range 6).all fun i=>decide (n i≤100))=z:=⟨_,rfl⟩
 have ZI:Hid (z=true↔∀i,i<6→n i≤100):=Lib.hid (by
  rw[←hz,List.all_eq_true];exact⟨fun h i hi=>of_decide_eq_true (h i (List.mem_range.2 hi)),fun h i hi=>decide_eq_true (h i (List.mem_range.1 hi))⟩)
 rw[hz];clear hA hw0 hR hbx hn hz
 go_enter Tryd.func5,Tryd.ntmps5
 go_wp2
 rw[HW.out,HR.out]
 go_loopw [3] (fun v wr=>∃i:Nat,i≤6∧v=.int .i64 i∧wr=w0∧Hid (∀j,j<i→n j≤100)) (fun v _=>6-(RowKit.intOf v).toNat)
 case atStart=>exact⟨0,by omega,rfl,rfl,Lib.hid fun j h=>absurd h (Nat.not_lt_zero j)⟩
 case round=>
  obtain⟨i,hi6,rfl,rfl,zs⟩:=hrel;by_cases hlt:i<6
  ·have t0:decide ((i:Int)<6)=true:=by simp;omega
   have e0:=EV.out i hlt;by_cases hn:100<n i
   ·have t1:decide (100<n i)=true:=decide_eq_true hn;have t2:decide (100<(n i:Int))=true:=decide_eq_true (by omega);have Z:Hid (z=false):=Lib.hid (Bool.eq_false_iff.2 fun h=>by have:=ZI.out.1 h i hlt;omega);clear hn
    go_wp2
    go_ret
    exact⟨Yab Z.out.symm,by rw[HR.out];exact hb0⟩
   ·have t1:decide (100<n i)=false:=decide_eq_false hn;have t2:decide (100<(n i:Int))=false:=decide_eq_false (by omega);have ZN:=Lib.hid (show n i≤100 by omega);clear hn
    go_wp2
    go_roundw
    case rel=>exact⟨i+1,by omega,by go_num,by trivial,Lib.hid fun j hj=>(Nat.lt_succ_iff_lt_or_eq.1 hj).elim (zs.out j) fun h=>h▸ZN.out⟩
    case measure=>simp[RowKit.intOf];omega
  ·obtain rfl:i=6:=by omega
   have Z:Hid (z=true):=Lib.hid (ZI.out.2 zs.out)
   go_wp2
   go_ret
   exact⟨Yab Z.out.symm,by rw[HR.out];exact hb0⟩
def exR:Cel:={Yoc with ev:=six [] [] [(true,0,3)] [] [] []}
theorem Yk6:Ycx true exR=true:=by decide +kernel
theorem Yom:Yb9 exR 2 0=3:=by decide +kernel
theorem Yon:∀i,i<64→Ydi exR 5 2 i=Yh9 35 i:=by decide +kernel
theorem Ym0:∀i,i<64→Ydi exR 5 1 i=0:=by decide +kernel
theorem Yk7:∀i,i<64→Yhv exR 5 2 i=4:=by
 intro i hi;have h:=(Yfn (k:=kI) (lo:=-256) (hi:=255) Yon i hi).trans (Ylc 35 i hi);exact h.trans (by decide +kernel)
theorem Ym1:Yhv exR 5 1 0=0:=Yiw Ym0 0 (by omega)
theorem Yi1 {F:Nat→Nat→Int}{s b i:Nat}(h1:s / 64=b)(h2:s%64=i):ptF F s=F b i:=by
 unfold ptF;rw[h1,h2]
theorem Ymz {w:World}{K:Nat}{x0:Bool}{x1 x2:Int}(h:w.heap[K]? =some (.cells #[.bool x0,.int .i64 x1,.int .i64 x2] 42 (0,0))):Ycg w (some ⟨K,0,none⟩) [(x0,x1,x2)]:=by
 have h':w.heap[K]? =some (.cells [.bool x0,.int .i64 x1,.int .i64 x2].toArray 42 (0,0)):=h;refine .inr ⟨K,0,rfl,(Array.getElem?_eq_some_iff.1 h).1,fun i hi=>?_⟩
 match i,hi with
 |0,_=>exact⟨Yac h' rfl,Yac h' rfl,Yac h' rfl⟩
theorem Yn4 {w:World}{R:Nat}(h:w.heap[R+1]? =some (.cells #[.bool true,.int .i64 0,.int .i64 3] 42 (0,0))):Ycf w exR (six none none (some ⟨R+1,0,none⟩) none none none) (six 0 0 1 0 0 0):=fun i hi=>by
 match i,hi with
 |0,_=>exact⟨rfl,by decide,.inl rfl⟩
 |1,_=>exact⟨rfl,by decide,.inl rfl⟩
 |2,_=>exact⟨rfl,by decide,Ymz h⟩
 |3,_=>exact⟨rfl,by decide,.inl rfl⟩
 |4,_=>exact⟨rfl,by decide,.inl rfl⟩
 |5,_=>exact⟨rfl,by decide,.inl rfl⟩
theorem Ykq (w:World):(zeroValue 27).run Tryd.prog w=.ok (.agg (Ycc Yoc Yo8).toArray) w:=by
 have h:(Tryd.prog.info? 27).map (fun i=>i.zero)=some (some (.agg (Ycc Yoc Yo8).toArray)):=by kernel_rfl
 generalize (Ycc Yoc Yo8).toArray=Z at h ⊢;cases hq:Tryd.prog.info? 27 with
 |none=>simp[hq] at h
 |some i=>
  simp[hq] at h;simp[zeroValue,typeInfo,hq,h]
set_option maxRecDepth 100000 in
set_option maxHeartbeats 2000000 in
theorem Ylg (w:World)(hT:Ydj w)(hS:Ya3 w)(hP:Ya8 w)(hD:Yb1 w):Calls Tryd.prog 6 #[] w fun e w'=>e=.returned (.bool true)∧Below w.heap.size w w':=by
 obtain⟨Z,hZ⟩:∃Z,(Ycc Yoc Yo8).toArray=Z:=⟨_,rfl⟩;have hzc:∀w,(zeroValue 27).run Tryd.prog w=.ok (.agg Z) w:=by rw[←hZ];exact Ykq
 obtain⟨R,hR⟩:∃R,w.heap.size=R:=⟨_,rfl⟩;have hA0:((w.alloc (.cells Z 27 (0,0))).alloc (.cells #[.bool true,.int .i64 0,.int .i64 3] 42 (0,0))).heap[R]? =some (.cells (Ycc Yoc Yo8).toArray 27 (0,0)):=by rw[←hR,hZ];exact Yai (heap_alloc_new w _)
 have c14:((w.alloc (.cells Z 27 (0,0))).alloc (.cells #[.bool true,.int .i64 0,.int .i64 3] 42 (0,0))).cell? ⟨R,14,none⟩=some (.slice none 0 0):=Yac hA0 rfl;have f14:((w.alloc (.cells Z 27 (0,0))).alloc (.cells #[.bool true,.int .i64 0,.int .i64 3] 42 (0,0))).frozen? ⟨R,14,none⟩=false:=Ybd hA0;obtain⟨A,hA'⟩:∃A,Z.setIfInBounds 14 (.slice (some ⟨R+1,0,none⟩) 1 1)=A:=⟨_,rfl⟩
 have hA:(Ycc exR fun i=>.slice (six none none (some ⟨R+1,0,none⟩) none none none i) (six 0 0 1 0 0 0 i) (six 0 0 1 0 0 0 i)).toArray=A:=by rw[←hA',←hZ];rfl
 obtain⟨R',wA,w2,hR',hwA,hw2,hzA,hz2,hC0,hC1,hb2⟩:=Yef w (.cells A 27 (0,0)) (.cells #[.bool true,.int .i64 0,.int .i64 3] 42 (0,0));obtain rfl:R=R':=hR.symm.trans hR';have C1:=Lib.hid (fun(x:World) (hx:Below (R+2) w2 x)=>(by
  have h1:Below w.heap.size w x:=hR▸hb2.trans (hx.mono (by omega));have h:=Yds exR (six none none (some ⟨R+1,0,none⟩) none none none) (six 0 0 1 0 0 0) (six 0 0 1 0 0 0) x (Yn4 ((hx.block (R+1) (by omega)).trans hC1)) (hT.below h1) (hS.below h1) (hP.below h1);unfold Ycs Yi5 at h;rw[if_pos Yk6] at h;rw[←hA]
  exact h:Calls Tryd.prog 7 #[.agg A] x fun e y=>e=.returned (.tuple #[.agg (arn 384 (ptF (Yb9 exR))),.int .i64 0])∧Below x.heap.size x y))
 have C2:=Lib.hid (fun(x:World) (hx:Below (R+2) w2 x)=>(by
  have h1:Below w.heap.size w x:=hR▸hb2.trans (hx.mono (by omega));have h:=Yln exR (six none none (some ⟨R+1,0,none⟩) none none none) (six 0 0 1 0 0 0) (six 0 0 1 0 0 0) 5 x (Yn4 ((hx.block (R+1) (by omega)).trans hC1)) (hT.below h1) (hS.below h1) (hP.below h1) (hD.below h1);unfold Ycs Yi5 at h;rw[if_pos Yk6] at h;rw[←hA]
  exact h:Calls Tryd.prog 12 #[.agg A,.int .i64 5] x fun e y=>e=.returned (.tuple #[.agg (arn 384 (ptF (Yhv exR 5))),.int .i64 0])∧Below x.heap.size x y))
 have L1:=Lib.hid (fun(x:World) (b:Nat) (h:x.heap[b]? =some (.cells (arn 384 (ptF (Yb9 exR))) 32 (0,0)))=>((Ybv (i:=128) h (by omega)).trans (by rw[Yi1 (b:=2) (i:=0) rfl rfl,Yom]):x.cell? ⟨b,128,none⟩=some (.int .i64 3)))
 have L2:=Lib.hid (fun(x:World) (b:Nat) (h:x.heap[b]? =some (.cells (arn 384 (ptF (Yhv exR 5))) 32 (0,0)))=>(⟨(Ybv (i:=128) h (by omega)).trans (by rw[Yi1 (b:=2) (i:=0) rfl rfl,Yk7 0 (by omega)]),(Ybv (i:=191) h (by omega)).trans (by rw[Yi1 (b:=2) (i:=63) rfl rfl,Yk7 63 (by omega)]),(Ybv (i:=64) h (by omega)).trans (by rw[Yi1 (b:=1) (i:=0) rfl rfl,Ym1])⟩:x.cell? ⟨b,128,none⟩=some (.int .i64 4)∧x.cell? ⟨b,191,none⟩=some (.int .i64 4)∧x.cell? ⟨b,64,none⟩=some (.int .i64 0)))
 obtain⟨Y,hY⟩:∃Y,(arn 384 fun _=>0)=Y:=⟨_,rfl⟩;have hz0:∀w,(zeroValue 32).run Tryd.prog w=.ok (.agg Y) w:=by rw[←hY];exact Yc1
 have HSA:(Tryd.prog.info? 27).map (·.size)=some A.size:=by rw[←hA];exact Ycm exR (fun i=>.slice (six none none (some ⟨R+1,0,none⟩) none none none i) (six 0 0 1 0 0 0 i) (six 0 0 1 0 0 0 i))
 have HS1:=Ybf (ptF (Yb9 exR));have HO1:=Ya6 384 (ptF (Yb9 exR));have HY1:Y.size=(arn 384 (ptF (Yb9 exR))).size:=by rw[←hY,Yak,Yak]
 have HS2:=Ybf (ptF (Yhv exR 5));have HO2:=Ya6 384 (ptF (Yhv exR 5));have HY2:Y.size=(arn 384 (ptF (Yhv exR 5))).size:=by rw[←hY,Yak,Yak]
 generalize arn 384 (ptF (Yb9 exR))=P1 at *;generalize arn 384 (ptF (Yhv exR 5))=P2 at *;have HA:=Lib.hid hA';have HWA:=Lib.hid hwA;have HW2:=Lib.hid hw2;have HB2:=Lib.hid hb2;have HRR:=Lib.hid hR;have HZ2:=Lib.hid hz2;clear hz2;clear hA hA' hwA hw2 hb2 hT hS hP hD hY hC1 hzA hA0 hZ hR'
 go_enter Tryd.func6,Tryd.ntmps6
 go_wp2_with (rw[HA.out,HWA.out,HW2.out];with_reducible refine wpList_load_row rfl 27 _ rfl R rfl 27 A (0,0) _ hC0 Tryd.underlying27 rfl HSA ?_)
 refine(C1.out _ (Below.refl _ _)).mono ?_;rintro e x1 ⟨rfl,hb1⟩;rw[HZ2.out] at hb1;have hA1:=(hb1.block R (by omega)).trans hC0;obtain⟨X1,hX1⟩:∃X,x1.heap.size=X:=⟨_,rfl⟩;obtain⟨x2,hx2⟩:∃x2,x1.alloc (.cells P1 32 (0,0))=x2:=⟨_,rfl⟩;have h2:x2.heap[X1]? =some (.cells P1 32 (0,0)):=by rw[←hx2,←hX1];exact heap_alloc_new x1 _
 have g2:Below (R+2) w2 x2:=by rw[←hx2];exact hb1.alloc (by have:=hb1.size;have:=HZ2.out;omega) _
 have hA2:x2.heap[R]? =some (.cells A 27 (0,0)):=by rw[←hx2];exact Yai hA1
 have hz3:x2.heap.size=X1+1:=by rw[←hx2];simp;omega
 have HX1:=Lib.hid hX1;have HX2:=Lib.hid hx2;clear hX1 hx2 hA1 hb1 hC0 hR c14 f14 hzc
 go_wp2_with (first|(with_reducible refine Yao rfl 32 _ _ rfl P1 Y 32 rfl rfl HS1 HY1 HO1 ?_;rw[HX2.out,HX1.out])|(with_reducible refine wpList_load_row rfl 27 _ rfl R rfl 27 A (0,0) _ hA2 Tryd.underlying27 rfl HSA ?_))
 refine(C2.out _ g2).mono ?_;rintro e x3 ⟨rfl,hb3⟩;have h3:=(hb3.block X1 (by omega)).trans h2;have g3:Below (R+2) w2 x3:=g2.trans (hb3.mono (by have:=g2.size;have:=HZ2.out;omega));have hz4:=hb3.size;obtain⟨X3,hX3⟩:∃X,x3.heap.size=X:=⟨_,rfl⟩;obtain⟨x4,hx4⟩:∃x4,x3.alloc (.cells P2 32 (0,0))=x4:=⟨_,rfl⟩;have h4:x4.heap[X3]? =some (.cells P2 32 (0,0)):=by rw[←hx4,←hX3];exact heap_alloc_new x3 _
 have h5:x4.heap[X1]? =some (.cells P1 32 (0,0)):=by rw[←hx4];exact Yai h3
 have g4:Below (R+2) w2 x4:=by rw[←hx4];exact g3.alloc (by have:=g3.size;have:=HZ2.out;omega) _
 have c1:=L1.out x4 X1 h5;obtain⟨c2,c3,c4⟩:=L2.out x4 X3 h4;have FIN:=Lib.hid (show Below w.heap.size w x4 by rw[HRR.out];exact HB2.out.trans (g4.mono (by omega)));have HX3:=Lib.hid hX3;have HX4:=Lib.hid hx4;clear hX3 hx4 h3 h4 h5 h2 g2 g3 g4 hb3 hA2 hz3 hz4
 go_wp2_with (with_reducible refine Yao rfl 32 _ _ rfl P2 Y 32 rfl rfl HS2 HY2 HO2 ?_;rw[HX4.out,HX3.out])
 go_ret
 exact⟨rfl,FIN.out⟩
set_option maxRecDepth 100000 in
set_option maxHeartbeats 8000000 in
theorem Ydx (k0:Cel)(p:Nat→Option Addr)(n cp:Nat→Nat)(q:Int)(w:World)(w0:∀i,i<6→n i≤maxLen∧Ygt w Yeq 3 (p i) (n i))(_:(Lit.int .i64 q).wf=true)(ht:Ypa w):
  Calls Tryd.prog 3 #[.agg (Ycc k0 fun i=>.slice (p i) (n i) (cp i)).toArray,.int .i64 q] w fun e w'=>e=.returned (.bool true)∧Below w.heap.size w w':=by
 obtain⟨c,hca,hce⟩:=Yh0 k0 p n cp w0;rw[hca];clear hca;have hfew:=fun x=>Yjo c p n cp x (fun i hi=>(w0 i hi).1);clear w0;obtain⟨A,hA⟩:∃A,(Ycc c fun i=>.slice (p i) (n i) (cp i)).toArray=A:=⟨_,rfl⟩;have HSA:(Tryd.prog.info? 27).map (·.size)=some A.size:=hA▸Ycm c _;obtain⟨R,hR⟩:∃R,w.heap.size=R:=⟨_,rfl⟩;obtain⟨wA,hwA⟩:∃wA,w.alloc (.cells A 27 (0,0))=wA:=⟨_,rfl⟩
 have hC0:wA.heap[R]? =some (.cells A 27 (0,0)):=by rw[←hwA,←hR];exact heap_alloc_new w _
 have hbA:Below R w wA:=by rw[←hwA,←hR];exact(Below.refl _ w).alloc (Nat.le_refl _) _
 have hzA:wA.heap.size=R+1:=by rw[←hwA,←hR];simp
 have DN:∀x,Below (R+1) wA x→Below w.heap.size w x:=fun x hx=>hR▸hbA.trans (hx.mono (by omega));have UP:∀x y,Below (R+1) wA x→Below x.heap.size x y→Below (R+1) wA y:=fun x y hx hy=>hx.trans (hy.mono (by have:=hx.size;omega));have LIV:=Lib.hid (fun(x:World) (hx:Below (R+1) wA x)=>(by
  have h:=ht.below (DN x hx);exact(Ylg x h.1 h.2.1 h.2.2.1 h.2.2.2).mono fun e y he=>⟨he.1,UP x y hx he.2⟩:Calls Tryd.prog 6 #[] x fun e y=>e=.returned (.bool true)∧Below (R+1) wA y))
 have LIV1:=Lib.hid (fun(x:World) (hx:Below (R+1) wA x)=>(by
  have h:=ht.below (DN x hx);exact Ylg x h.1 h.2.1 h.2.2.1 h.2.2.2:Calls Tryd.prog 6 #[] x fun e y=>e=.returned (.bool true)∧Below x.heap.size x y))
 have C0:=Lib.hid (fun(x:World) (hx:Below (R+1) wA x)=>((hx.block R (by omega)).trans hC0:x.heap[R]? =some (.cells A 27 (0,0))));rw[hA] at hfew ⊢;obtain⟨fb,hfb⟩:∃fb,((List.range 6).all fun i=>decide (n i≤100))=fb:=⟨_,rfl⟩;rw[hfb] at hfew;have FEW:=Lib.hid hfew;have HWA:=Lib.hid hwA;have HR:=Lib.hid hR;have DNH:=Lib.hid DN;have HZA:=Lib.hid hzA;cases fb with
 |false=>
  clear hA hce ht hwA hR hbA DN UP hfew hfb hzA C0
  go_enter Tryd.func3,Tryd.ntmps3
  go_wp2_with (rw[HWA.out,HR.out];with_reducible refine wpList_load_row rfl 27 _ rfl R rfl 27 A (0,0) _ hC0 Tryd.underlying27 rfl HSA ?_)
  refine(FEW.out _).mono ?_;rintro e x1 ⟨rfl,hb1⟩;rw[HZA.out] at hb1
  go_wp2_with fail
  refine(LIV.out _ hb1).mono ?_;rintro e x2 ⟨rfl,hb2⟩
  go_wp2
  go_ret
  exact⟨rfl,DNH.out _ hb2⟩
 |true=>
  have CI:∀x,Below (R+1) wA x→Ycf x c p n:=fun x hx i hi=>by
   have h1:n i≤100:=of_decide_eq_true (List.all_eq_true.1 hfb i (List.mem_range.2 hi));exact⟨(hce i hi).1,by omega,(hce i hi).2.below (DN x hx)⟩
  obtain⟨Y,hY⟩:∃Y,(arn 384 fun _=>0)=Y:=⟨_,rfl⟩;have hz0:∀w,(zeroValue 32).run Tryd.prog w=.ok (.agg Y) w:=by rw[←hY];exact Yc1
  have hbz:∀w,(Instr.build 32 #[]).run Tryd.prog w=.ok (.agg Y) w:=by rw[←hY];exact Yi2
  have qY:∀w,(Op.equalIn 10000 32 (.agg Y) (.agg Y)).run Tryd.prog w=.ok true w:=by rw[←hY];exact Ygd _
  have HSY:(Tryd.prog.info? 32).map (·.size)=some Y.size:=hY▸Ybf _;have HOY:Y.all (·.oneCell')=true:=hY▸Ya6 _ _;have HYZ:Y.size=384:=by rw[←hY,Yak]
  have hle:=fun x (hx:Below (R+1) wA x)=>Yds c p n cp x (CI x hx) (ht.below (DN x hx)).1 (ht.below (DN x hx)).2.1 (ht.below (DN x hx)).2.2.1;have hva:=fun x (hx:Below (R+1) wA x)=>Ygn c p n cp q x (CI x hx) (ht.below (DN x hx)).1 (ht.below (DN x hx)).2.1 (ht.below (DN x hx)).2.2.1;have hri:=fun x (hx:Below (R+1) wA x)=>Yii true c p n cp x (CI x hx)
  have hpl:=fun x (hx:Below (R+1) wA x)=>Ydu c p n cp x (CI x hx);have hpv:=fun x (hx:Below (R+1) wA x)=>Ygo c p n cp q x (CI x hx);obtain⟨V1,hV1⟩:∃V,arn 384 (ptF (Yb9 c))=V:=⟨_,rfl⟩;obtain⟨V2,hV2⟩:∃V,arn 384 (ptF (Ydi c q))=V:=⟨_,rfl⟩;unfold Ycs Yi5 at hle hva;unfold Yc7 at hpl hpv;rw[hA] at hle hva hri hpl hpv;rw[hV1] at hpl;rw[hV2] at hpv;have HSY_Y:=HSY;have HOY_Y:=HOY;have c0:=hC0
  cases hok:Ycx true c with
  |false=>
   simp only[hok,Bool.false_eq_true,if_false] at hle hva;rw[hY] at hle hva;rw[hok] at hri;have LE:=Lib.hid (fun(x:World) (hx:Below (R+1) wA x)=>((hle x hx).mono fun e y he=>⟨he.1,UP x y hx he.2,he.2⟩:Calls Tryd.prog 7 #[.agg A] x fun e y=>e=.returned (.tuple #[.agg Y,.int .i64 12])∧Below (R+1) wA y∧Below x.heap.size x y))
   have VA:=Lib.hid (fun(x:World) (hx:Below (R+1) wA x)=>((hva x hx).mono fun e y he=>⟨he.1,UP x y hx he.2,he.2⟩:Calls Tryd.prog 8 #[.agg A,.int .i64 q] x fun e y=>e=.returned (.tuple #[.agg Y,.int .i64 12])∧Below (R+1) wA y∧Below x.heap.size x y))
   have RI:=Lib.hid (fun(x:World) (hx:Below (R+1) wA x)=>((hri x hx).mono fun e y he=>⟨he.1,UP x y hx he.2,he.2⟩:Calls Tryd.prog 9 #[.bool true,.agg A] x fun e y=>e=.returned (.bool false)∧Below (R+1) wA y∧Below x.heap.size x y));clear hle hva hri hpl hpv hA hce ht hwA hR hbA DN UP hfew hfb hzA hY hV1 hV2 hok CI hC0
   go_enter Tryd.func3,Tryd.ntmps3
   go_wp2_with (rw[HWA.out,HR.out];with_reducible refine wpList_load_row rfl 27 _ rfl R rfl 27 A (0,0) _ c0 Tryd.underlying27 rfl HSA ?_)
   refine(FEW.out _).mono ?_;rintro e x0 ⟨rfl,hb0⟩;rw[HZA.out] at hb0;have c1:=C0.out x0 hb0;clear c0
   go_wp2_with (with_reducible refine wpList_load_row rfl 27 _ rfl R rfl 27 A (0,0) _ c1 Tryd.underlying27 rfl HSA ?_)
   refine(LE.out _ hb0).mono ?_;rintro e x1 ⟨rfl,hb1,-⟩;obtain⟨X1,hX1⟩:∃X,x1.heap.size=X:=⟨_,rfl⟩;obtain⟨y1,hy1⟩:∃y,x1.alloc (.cells Y 32 (0,0))=y:=⟨_,rfl⟩;have g1:y1.heap[X1]? =some (.cells Y 32 (0,0)):=by rw[←hy1,←hX1];exact heap_alloc_new x1 _
   have s1:Below (R+1) wA y1:=by rw[←hy1];exact hb1.alloc (by have:=hb1.size;have:=HZA.out;omega) _
   have z1:y1.heap.size=X1+1:=by rw[←hy1,←hX1];simp
   have HX1:=Lib.hid hX1;have HY1:=Lib.hid hy1;clear hX1 hy1;have c2:=C0.out y1 s1;clear c1 hb0 hb1
   go_wp2_with (first|(with_reducible refine Yao rfl 32 _ _ rfl Y Y 32 rfl rfl HSY_Y rfl HOY_Y ?_;rw[HY1.out,HX1.out])|(with_reducible refine wpList_load_row rfl 27 _ rfl R rfl 27 A (0,0) _ c2 Tryd.underlying27 rfl HSA ?_))
   refine(VA.out _ s1).mono ?_;rintro e x2 ⟨rfl,hb2,hk2⟩;have h1:=(hk2.block X1 (by omega)).trans g1;have hl2:X1+1≤x2.heap.size:=by have:=hk2.size;omega
   obtain⟨X2,hX2⟩:∃X,x2.heap.size=X:=⟨_,rfl⟩;obtain⟨y2,hy2⟩:∃y,x2.alloc (.cells Y 32 (0,0))=y:=⟨_,rfl⟩;have g2:y2.heap[X2]? =some (.cells Y 32 (0,0)):=by rw[←hy2,←hX2];exact heap_alloc_new x2 _
   have s2:Below (R+1) wA y2:=by rw[←hy2];exact hb2.alloc (by have:=hb2.size;have:=HZA.out;omega) _
   have z2:y2.heap.size=X2+1:=by rw[←hy2,←hX2];simp
   have g1__:y2.heap[X1]? =some (.cells Y 32 (0,0)):=by rw[←hy2];exact Yai h1
   have HX2:=Lib.hid hX2;have HY2:=Lib.hid hy2;clear hX2 hy2;have hlt2:X1+1≤X2:=by have:=HX2.out;omega
   have c3:=C0.out y2 s2;clear c2 hb2 hk2 h1 s1 g1 z1 hl2
   go_wp2_with (first|(with_reducible refine Yao rfl 32 _ _ rfl Y Y 32 rfl rfl HSY_Y rfl HOY_Y ?_;rw[HY2.out,HX2.out])|(with_reducible refine wpList_load_row rfl 27 _ rfl R rfl 27 A (0,0) _ c3 Tryd.underlying27 rfl HSA ?_))
   refine(RI.out _ s2).mono ?_;rintro e x3 ⟨rfl,hb3,hk3⟩;have l1:=(hk3.block X1 (by omega)).trans g1__;have l2:=(hk3.block X2 (by omega)).trans g2;have hl3:X2+1≤x3.heap.size:=by have:=hk3.size;omega
   clear c3 hk3 s2 g2 g1__ z2
   go_wp2_with (first|(with_reducible refine wpList_load_row rfl 32 _ rfl X1 rfl 32 Y (0,0) _ l1 Tryd.underlying32 rfl HSY_Y ?_)|(with_reducible refine Yat ?hw 32 _ rfl X2 rfl 32 Y (0,0) _ l2 Tryd.underlying32 rfl HSY_Y ?_;(case hw=>kernel_rfl)))
   refine(LIV.out _ hb3).mono ?_;rintro e x4 ⟨rfl,hb4⟩
   go_wp2
   go_ret
   exact⟨rfl,DNH.out _ hb4⟩
  |true=>
   simp only[hok,if_true] at hle hva;rw[hV1] at hle;rw[hV2] at hva;have HSY_V1:(Tryd.prog.info? 32).map (·.size)=some V1.size:=hV1▸Ybf _;have HOY_V1:V1.all (·.oneCell')=true:=hV1▸Ya6 _ _;have HYY_V1:Y.size=V1.size:=by rw[HYZ,←hV1,Yak]
   have qV1:∀w,(Op.equalIn 10000 32 (.agg V1) (.agg V1)).run Tryd.prog w=.ok true w:=by rw[←hV1];exact Ygd _
   have HSY_V2:(Tryd.prog.info? 32).map (·.size)=some V2.size:=hV2▸Ybf _;have HOY_V2:V2.all (·.oneCell')=true:=hV2▸Ya6 _ _;have HYY_V2:Y.size=V2.size:=by rw[HYZ,←hV2,Yak]
   have qV2:∀w,(Op.equalIn 10000 32 (.agg V2) (.agg V2)).run Tryd.prog w=.ok true w:=by rw[←hV2];exact Ygd _
   rw[hok] at hri;have LE:=Lib.hid (fun(x:World) (hx:Below (R+1) wA x)=>((hle x hx).mono fun e y he=>⟨he.1,UP x y hx he.2,he.2⟩:Calls Tryd.prog 7 #[.agg A] x fun e y=>e=.returned (.tuple #[.agg V1,.int .i64 0])∧Below (R+1) wA y∧Below x.heap.size x y))
   have VA:=Lib.hid (fun(x:World) (hx:Below (R+1) wA x)=>((hva x hx).mono fun e y he=>⟨he.1,UP x y hx he.2,he.2⟩:Calls Tryd.prog 8 #[.agg A,.int .i64 q] x fun e y=>e=.returned (.tuple #[.agg V2,.int .i64 0])∧Below (R+1) wA y∧Below x.heap.size x y))
   have RI:=Lib.hid (fun(x:World) (hx:Below (R+1) wA x)=>((hri x hx).mono fun e y he=>⟨he.1,UP x y hx he.2,he.2⟩:Calls Tryd.prog 9 #[.bool true,.agg A] x fun e y=>e=.returned (.bool true)∧Below (R+1) wA y∧Below x.heap.size x y));have PL0:=Lib.hid hpl;have PV0:=Lib.hid hpv;have UPH:=Lib.hid UP;clear hle hva hri hpl hpv hA hce ht hwA hR hbA DN UP hfew hfb hzA hY hV1 hV2 hok CI hC0
   go_enter Tryd.func3,Tryd.ntmps3
   go_wp2_with (rw[HWA.out,HR.out];with_reducible refine wpList_load_row rfl 27 _ rfl R rfl 27 A (0,0) _ c0 Tryd.underlying27 rfl HSA ?_)
   refine(FEW.out _).mono ?_;rintro e x0 ⟨rfl,hb0⟩;rw[HZA.out] at hb0;have c1:=C0.out x0 hb0;clear c0
   go_wp2_with (with_reducible refine wpList_load_row rfl 27 _ rfl R rfl 27 A (0,0) _ c1 Tryd.underlying27 rfl HSA ?_)
   refine(LE.out _ hb0).mono ?_;rintro e x1 ⟨rfl,hb1,-⟩;obtain⟨X1,hX1⟩:∃X,x1.heap.size=X:=⟨_,rfl⟩;obtain⟨y1,hy1⟩:∃y,x1.alloc (.cells V1 32 (0,0))=y:=⟨_,rfl⟩;have g1:y1.heap[X1]? =some (.cells V1 32 (0,0)):=by rw[←hy1,←hX1];exact heap_alloc_new x1 _
   have s1:Below (R+1) wA y1:=by rw[←hy1];exact hb1.alloc (by have:=hb1.size;have:=HZA.out;omega) _
   have z1:y1.heap.size=X1+1:=by rw[←hy1,←hX1];simp
   have HX1:=Lib.hid hX1;have HY1:=Lib.hid hy1;clear hX1 hy1;have c2:=C0.out y1 s1;clear c1 hb0 hb1
   go_wp2_with (first|(with_reducible refine Yao rfl 32 _ _ rfl V1 Y 32 rfl rfl HSY_V1 HYY_V1 HOY_V1 ?_;rw[HY1.out,HX1.out])|(with_reducible refine wpList_load_row rfl 27 _ rfl R rfl 27 A (0,0) _ c2 Tryd.underlying27 rfl HSA ?_))
   refine(VA.out _ s1).mono ?_;rintro e x2 ⟨rfl,hb2,hk2⟩;have h1:=(hk2.block X1 (by omega)).trans g1;have hl2:X1+1≤x2.heap.size:=by have:=hk2.size;omega
   obtain⟨X2,hX2⟩:∃X,x2.heap.size=X:=⟨_,rfl⟩;obtain⟨y2,hy2⟩:∃y,x2.alloc (.cells V2 32 (0,0))=y:=⟨_,rfl⟩;have g2:y2.heap[X2]? =some (.cells V2 32 (0,0)):=by rw[←hy2,←hX2];exact heap_alloc_new x2 _
   have s2:Below (R+1) wA y2:=by rw[←hy2];exact hb2.alloc (by have:=hb2.size;have:=HZA.out;omega) _
   have z2:y2.heap.size=X2+1:=by rw[←hy2,←hX2];simp
   have g1__:y2.heap[X1]? =some (.cells V1 32 (0,0)):=by rw[←hy2];exact Yai h1
   have HX2:=Lib.hid hX2;have HY2:=Lib.hid hy2;clear hX2 hy2;have hlt2:X1+1≤X2:=by have:=HX2.out;omega
   have c3:=C0.out y2 s2;clear c2 hb2 hk2 h1 s1 g1 z1 hl2
   go_wp2_with (first|(with_reducible refine Yao rfl 32 _ _ rfl V2 Y 32 rfl rfl HSY_V2 HYY_V2 HOY_V2 ?_;rw[HY2.out,HX2.out])|(with_reducible refine wpList_load_row rfl 27 _ rfl R rfl 27 A (0,0) _ c3 Tryd.underlying27 rfl HSA ?_))
   refine(RI.out _ s2).mono ?_;rintro e x3 ⟨rfl,hb3,hk3⟩;have l1:=(hk3.block X1 (by omega)).trans g1__;have l2:=(hk3.block X2 (by omega)).trans g2;have hl3:X2+1≤x3.heap.size:=by have:=hk3.size;omega
   clear c3 hk3 s2 g2 g1__ z2
   have KP:=Lib.hid (fun x y (hx:(Below (R+1) wA x∧x.heap[X1]? =some (.cells V1 32 (0,0))∧x.heap[X2]? =some (.cells V2 32 (0,0))∧X2+1≤x.heap.size)) (hy:Below x.heap.size x y)=>(⟨UPH.out x y hx.1 hy,(hy.block X1 (by omega)).trans hx.2.1,(hy.block X2 (by omega)).trans hx.2.2.1,Nat.le_trans hx.2.2.2 hy.size⟩:(Below (R+1) wA y∧y.heap[X1]? =some (.cells V1 32 (0,0))∧y.heap[X2]? =some (.cells V2 32 (0,0))∧X2+1≤y.heap.size)))
   have PL:=Lib.hid (fun(x:World) (hx:(Below (R+1) wA x∧x.heap[X1]? =some (.cells V1 32 (0,0))∧x.heap[X2]? =some (.cells V2 32 (0,0))∧X2+1≤x.heap.size))=>((PL0.out x hx.1).mono fun e y he=>⟨he.1,KP.out x y hx he.2⟩:Calls Tryd.prog 10 #[.agg A] x fun e y=>e=.returned (.agg V1)∧(Below (R+1) wA y∧y.heap[X1]? =some (.cells V1 32 (0,0))∧y.heap[X2]? =some (.cells V2 32 (0,0))∧X2+1≤y.heap.size)))
   have PV:=Lib.hid (fun(x:World) (hx:(Below (R+1) wA x∧x.heap[X1]? =some (.cells V1 32 (0,0))∧x.heap[X2]? =some (.cells V2 32 (0,0))∧X2+1≤x.heap.size))=>((PV0.out x hx.1).mono fun e y he=>⟨he.1,KP.out x y hx he.2⟩:Calls Tryd.prog 11 #[.agg A,.int .i64 q] x fun e y=>e=.returned (.agg V2)∧(Below (R+1) wA y∧y.heap[X1]? =some (.cells V1 32 (0,0))∧y.heap[X2]? =some (.cells V2 32 (0,0))∧X2+1≤y.heap.size)))
   have LI:=Lib.hid (fun(x:World) (hx:(Below (R+1) wA x∧x.heap[X1]? =some (.cells V1 32 (0,0))∧x.heap[X2]? =some (.cells V2 32 (0,0))∧X2+1≤x.heap.size))=>((LIV1.out x hx.1).mono fun e y he=>⟨he.1,KP.out x y hx he.2⟩:Calls Tryd.prog 6 #[] x fun e y=>e=.returned (.bool true)∧(Below (R+1) wA y∧y.heap[X1]? =some (.cells V1 32 (0,0))∧y.heap[X2]? =some (.cells V2 32 (0,0))∧X2+1≤y.heap.size)))
   have C0S:=Lib.hid (fun(x:World) (hx:(Below (R+1) wA x∧x.heap[X1]? =some (.cells V1 32 (0,0))∧x.heap[X2]? =some (.cells V2 32 (0,0))∧X2+1≤x.heap.size))=>C0.out x hx.1);have L1S:=Lib.hid (fun(x:World) (hx:(Below (R+1) wA x∧x.heap[X1]? =some (.cells V1 32 (0,0))∧x.heap[X2]? =some (.cells V2 32 (0,0))∧X2+1≤x.heap.size))=>hx.2.1)
   have L2S:=Lib.hid (fun(x:World) (hx:(Below (R+1) wA x∧x.heap[X1]? =some (.cells V1 32 (0,0))∧x.heap[X2]? =some (.cells V2 32 (0,0))∧X2+1≤x.heap.size))=>hx.2.2.1)
   go_wp2
   refine Yax (S:=fun x=>(Below (R+1) wA x∧x.heap[X1]? =some (.cells V1 32 (0,0))∧x.heap[X2]? =some (.cells V2 32 (0,0))∧X2+1≤x.heap.size)) 23 (by kernel_rfl) (by kernel_rfl) ⟨hb3.drew,l1,l2,hl3⟩ ?_;simp only[List.take_succ_cons,List.take_zero,List.drop_succ_cons,List.drop_zero]
   refine Yb6 32 _ X1 32 V1 (0,0) _ (by kernel_rfl) rfl rfl (fun x hx=>L1S.out x hx) Tryd.underlying32 rfl HSY_V1 ?_;simp only[Yaa];refine Yb6 27 _ R 27 A (0,0) _ (by kernel_rfl) rfl rfl (fun x hx=>C0S.out x hx) Tryd.underlying27 rfl HSA ?_;simp only[Yaa];refine Yau (by kernel_rfl) PL.out (fun _=>by kernel_rfl) ?_;simp only[Yaa]
   iterate 6 (refine Yae (by kernel_rfl) (fun x _=>by go_simp;try with_reducible rfl) ?_;simp only[Yaa])
   refine Yb6 32 _ X2 32 V2 (0,0) _ (by kernel_rfl) rfl rfl (fun x hx=>L2S.out x hx) Tryd.underlying32 rfl HSY_V2 ?_;simp only[Yaa];refine Yb6 27 _ R 27 A (0,0) _ (by kernel_rfl) rfl rfl (fun x hx=>C0S.out x hx) Tryd.underlying27 rfl HSA ?_;simp only[Yaa];refine Yae (by kernel_rfl) (fun x _=>by go_simp;try with_reducible rfl) ?_;simp only[Yaa]
   refine Yau (by kernel_rfl) PV.out (fun _=>by kernel_rfl) ?_;simp only[Yaa]
   iterate 7 (refine Yae (by kernel_rfl) (fun x _=>by go_simp;try with_reducible rfl) ?_;simp only[Yaa])
   refine Yau (by kernel_rfl) LI.out (fun _=>by kernel_rfl) ?_;simp only[Yaa]
   iterate 2 (refine Yae (by kernel_rfl) (fun x _=>by go_simp;try with_reducible rfl) ?_;simp only[Yaa])
   refine Yb3 fun x hx=>?_
   go_wp2
   go_ret
   exact⟨rfl,DNH.out _ hx.1⟩
end Go.Proofs.YtkgabfmjfhljdaaDoor