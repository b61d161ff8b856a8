/- Texts that SheetoutPuts's proof stands on, part 30 of 47. No condition of its own. -/
import Derived.Test.YtgikochfffdpfaaGreatDoorSheetoutPutsMa
import Derived.Test.YtgikochfffdpfaaGreatDoorSheetoutPutsMi
import Derived.Test.YtgikochfffdpfaaGreatDoorSheetoutPutsMk
import Derived.Test.YtgikochfffdpfaaGreatDoorSheetoutPutsMl
import Derived.Test.YtgikochfffdpfaaGreatDoorSheetoutPutsMm
import Derived.Test.YtgikochfffdpfaaGreatDoorSheetoutPutsMr
import Derived.Test.YtgikochfffdpfaaGreatDoorSheetoutPutsMbc
import Derived.WalkMore
import Derived.Laws.Slices
import Derived.Laws.IdiomCopy
import Derived.Laws.BytesArg
import Derived.Laws.World
import Derived.Test.YtgikochfffdpfaaGreatDoorRows
import Derived.WalkKit
import Derived.ProofKit
import Derived.Lib.Hide
namespace Go.Proofs.YtgikochfffdpfaaGreatDoor
open Go.RowKit Go.Lib
def Yl3 (f:Nat→Int×Int) (n a:Nat):Int×Int:=if 0<n%a then f (n-1) else (0,0)
def upV (n a:Nat) (first:Int):Bool:=decide (0<n / a)&&decide (first<((n / a:Nat):Int))
def Ysz (f:Nat→Int×Int) (n a:Nat) (first:Int):Int×Int:=if upV n a first then f (n-a) else Yl3 f n a
def Ys3 (f:Nat→Int×Int) (n a:Nat) (first:Int):Int×Int:=if upV n a first then (if n%a<a-1 then f (n-a+1) else (0,0)) else Yl3 f n a
def Ywm (f:Nat→Int×Int) (n:Nat) (across first:Int):Int×Int:=
 if across<1 then (0,0)
 else (Ycv (Yl3 f n across.toNat).1 (Ysz f n across.toNat first).1 (Ys3 f n across.toNat first).1,Ycv (Yl3 f n across.toNat).2 (Ysz f n across.toNat first).2 (Ys3 f n across.toNat first).2)
def Ysl (x y z:Int×Int):Array Value:=#[.int .i64 x.1,.int .i64 x.2,.int .i64 y.1,.int .i64 y.2,.int .i64 z.1,.int .i64 z.2]
theorem Yg7 {n A:Nat} (h:1≤A):(n:Int).tmod (A:Int)=((n%A:Nat):Int)∧(n:Int).tdiv (A:Int)=((n / A:Nat):Int)∧n%A<A∧(0<n%A→1≤n)∧(0<n / A→A≤n)∧n / A≤n:=by
 refine ⟨by rw [Int.tmod_eq_emod_of_nonneg (by omega)];rfl,by rw [Int.tdiv_eq_ediv_of_nonneg (by omega)];rfl,Nat.mod_lt _ h,fun h1=> ?_,fun h1=> ?_,Nat.div_le_self _ _⟩
 ·rcases Nat.eq_zero_or_pos n with rfl | h2
  ·simp at h1
  ·exact h2
 ·rcases Nat.lt_or_ge n A with h2 | h2
  ·rw [Nat.div_eq_of_lt h2] at h1;omega
  ·exact h2
def Yqp:Obj:=.cells #[.int .i64 0,.int .i64 0,.int .i64 0,.int .i64 0,.int .i64 0,.int .i64 0] 142 (0,0)
def zerO:Obj:=.cells #[.int .i64 0,.int .i64 0] 51 (0,0)
theorem Ypp (w:World) (o1 o2 o3 o4:Obj):Below w.heap.size w ((((w.alloc o1).alloc o2).alloc o3).alloc o4):=
 ((((Below.refl _ w).alloc (Nat.le_refl _) _).alloc (by simp) _).alloc (by simp;omega) _).alloc (by simp;omega) _
theorem Ycz (w:World) (o1 o2 o3 o4:Obj):((((w.alloc o1).alloc o2).alloc o3).alloc o4).drew.heap[w.heap.size]? = some o1:=
 Yap (Yap (Yap (heap_alloc_new w o1)))
set_option maxHeartbeats 1000000 in
theorem Yom (f:Nat→Int×Int) (p:Option Addr) (n cap A:Nat) (first:Int) (w:World) (ha:Yea w p n f) (hn:n≤maxLen) (h1:1≤A) (hA:A≤9223372036854775807):
  Calls Tryz.prog 117 #[.slice p n cap,.int .i64 (A:Int),.int .i64 first] w fun e w'=> e = .returned (.agg (Ysl (Yl3 f n A) (Ysz f n A first) (Ys3 f n A first)))∧Below w.heap.size w w':=by
 unfold maxLen at hn
 obtain ⟨m1,m2,m3,m4,m5,m6⟩:=Yg7 (n:=n) h1
 have z0:((A:Int)==0)=false:=by simp;omega
 have e1:(n:Int)%(A:Int)=((n%A:Nat):Int):=rfl
 have e2:(n:Int) / (A:Int)=((n / A:Nat):Int):=rfl
 have wd:IntKind.i64.wrap ((n / A:Nat):Int)=((n / A:Nat):Int):=Ypr (by omega)
 have HL:=Lib.hid (show Yl3 f n A=if 0<n%A then f (n-1) else (0,0) from rfl)
 have HU:=Lib.hid (show Ysz f n A first=if upV n A first then f (n-A) else Yl3 f n A from rfl)
 have HR:=Lib.hid (show Ys3 f n A first=if upV n A first then (if n%A<A-1 then f (n-A+1) else (0,0)) else Yl3 f n A from rfl)
 have hup:upV n A first=(decide (0<n / A)&&decide (first<((n / A:Nat):Int))):=rfl
 obtain ⟨mx,hmx⟩:∃mx,(if first<0 then 0 else first)=mx:=⟨_,rfl⟩
 have hmx2:0≤mx∧first≤mx∧(mx=0∨mx=first):=by rw [←hmx];split <;> omega
 have hr0:=Yoc ha
 clear ha
 generalize Yl3 f n A=L at *
 generalize Ysz f n A first=U at *
 generalize Ys3 f n A first=R at *
 generalize upV n A first=up at *
 generalize n%A=c at *
 generalize n / A=q at *
 have KT:=Lib.hid (fun o1 o2 o3 o4=> Ypp w o1 o2 o3 o4)
 clear m1 m2
 have HW:=Lib.hid wd
 by_cases hc:0<c
 ·have t0:decide (0<c)=true:=decide_eq_true (by omega)
  have m7:=m4 hc
  obtain ⟨k,hk⟩:∃k,n-1=k:=⟨_,rfl⟩
  have hkn:k<n:=by omega
  have nk:(n:Int)-1=(k:Int):=by omega
  rw [if_pos hc,hk] at HL
  obtain ⟨b,o,rfl,hr⟩:=hr0 (by omega)
  obtain ⟨c0,c1⟩:=hr _ (KT.out Yqp zerO zerO zerO).drew k hkn
  unfold Yqp zerO at c0 c1
  clear m4
  by_cases hu:up=true
  rotate_left
  ·rw [if_neg hu] at HU HR
   have t1:decide ((q:Int)≤mx)=true:=decide_eq_true (by
    rcases Nat.eq_zero_or_pos q with h | h
    ·omega
    ·have hf:¬ first<(q:Int):=fun h2=> hu (by rw [hup,decide_eq_true h,decide_eq_true h2];rfl)
     omega)
   clear m3 m6 hup
   clear hc hr hr0 hu
   go_enter Tryz.func117,Tryz.ntmps117
   go_wp2
   go_region
   go_wp2
   refine bodyPost_ret (results_cell_row rfl _ _ w.heap.size 142 _ (0,0) _ rfl (Ycz w _ _ _ _) Tryz.underlying142 rfl (by kernel_rfl)) rfl ?_
   exact ⟨by rw [HU.out,HR.out,HL.out];rfl,(KT.out _ _ _ _).drew⟩
  ·rw [if_pos hu] at HU HR
   rw [hup,Bool.and_eq_true,decide_eq_true_iff,decide_eq_true_iff] at hu
   obtain ⟨u1,u2⟩:=hu
   have m8:=m5 u1
   have t1:decide ((q:Int)≤mx)=false:=decide_eq_false (by omega)
   obtain ⟨j,hj⟩:∃j,n-A=j:=⟨_,rfl⟩
   have hjn:j<n:=by omega
   have nj:(n:Int)-(A:Int)=(j:Int):=by omega
   rw [hj] at HU HR
   by_cases hg:c<A-1
   ·rw [if_pos hg] at HR
    have t2:decide ((c:Int)<(A:Int)-1)=true:=decide_eq_true (by omega)
    have hjn2:j+1<n:=by omega
    clear m3 m6 hup
    obtain ⟨c2,c3⟩:=hr _ (KT.out Yqp (.cells #[.int .i64 (f k).1,.int .i64 (f k).2] 51 (0,0)) zerO zerO).drew j hjn
    unfold Yqp zerO at c2 c3
    obtain ⟨c4,c5⟩:=hr _ (KT.out Yqp (.cells #[.int .i64 (f k).1,.int .i64 (f k).2] 51 (0,0)) (.cells #[.int .i64 (f j).1,.int .i64 (f j).2] 51 (0,0)) zerO).drew (j+1) hjn2
    unfold Yqp zerO at c4 c5
    clear hc hr hr0 hg
    go_enter Tryz.func117,Tryz.ntmps117
    go_wp2
    go_region
    go_wp2
    refine bodyPost_ret (results_cell_row rfl _ _ w.heap.size 142 _ (0,0) _ rfl (Ycz w _ _ _ _) Tryz.underlying142 rfl (by kernel_rfl)) rfl ?_
    exact ⟨by rw [HU.out,HR.out,HL.out];rfl,(KT.out _ _ _ _).drew⟩
   ·rw [if_neg hg] at HR
    have t2:decide ((c:Int)<(A:Int)-1)=false:=decide_eq_false (by omega)
    clear m3 m6 hup
    obtain ⟨c2,c3⟩:=hr _ (KT.out Yqp (.cells #[.int .i64 (f k).1,.int .i64 (f k).2] 51 (0,0)) zerO zerO).drew j hjn
    unfold Yqp zerO at c2 c3
    clear hc hr hr0 hg
    go_enter Tryz.func117,Tryz.ntmps117
    go_wp2
    go_region
    go_wp2
    refine bodyPost_ret (results_cell_row rfl _ _ w.heap.size 142 _ (0,0) _ rfl (Ycz w _ _ _ _) Tryz.underlying142 rfl (by kernel_rfl)) rfl ?_
    exact ⟨by rw [HU.out,HR.out,HL.out];rfl,(KT.out _ _ _ _).drew⟩
 ·have t0:decide (0<c)=false:=decide_eq_false (by omega)
  rw [if_neg hc] at HL
  clear m4
  by_cases hu:up=true
  rotate_left
  ·rw [if_neg hu] at HU HR
   have t1:decide ((q:Int)≤mx)=true:=decide_eq_true (by
    rcases Nat.eq_zero_or_pos q with h | h
    ·omega
    ·have hf:¬ first<(q:Int):=fun h2=> hu (by rw [hup,decide_eq_true h,decide_eq_true h2];rfl)
     omega)
   clear m3 m6 hup
   clear hc hr0 hu
   go_enter Tryz.func117,Tryz.ntmps117
   go_wp2
   go_region
   go_wp2
   refine bodyPost_ret (results_cell_row rfl _ _ w.heap.size 142 _ (0,0) _ rfl (Ycz w _ _ _ _) Tryz.underlying142 rfl (by kernel_rfl)) rfl ?_
   exact ⟨by rw [HU.out,HR.out,HL.out];rfl,(KT.out _ _ _ _).drew⟩
  ·rw [if_pos hu] at HU HR
   rw [hup,Bool.and_eq_true,decide_eq_true_iff,decide_eq_true_iff] at hu
   obtain ⟨u1,u2⟩:=hu
   have m8:=m5 u1
   have t1:decide ((q:Int)≤mx)=false:=decide_eq_false (by omega)
   obtain ⟨j,hj⟩:∃j,n-A=j:=⟨_,rfl⟩
   have hjn:j<n:=by omega
   have nj:(n:Int)-(A:Int)=(j:Int):=by omega
   rw [hj] at HU HR
   obtain ⟨b,o,rfl,hr⟩:=hr0 (by omega)
   by_cases hg:c<A-1
   ·rw [if_pos hg] at HR
    have t2:decide ((c:Int)<(A:Int)-1)=true:=decide_eq_true (by omega)
    have hjn2:j+1<n:=by omega
    clear m3 m6 hup
    obtain ⟨c2,c3⟩:=hr _ (KT.out Yqp zerO zerO zerO).drew j hjn
    unfold Yqp zerO at c2 c3
    obtain ⟨c4,c5⟩:=hr _ (KT.out Yqp zerO (.cells #[.int .i64 (f j).1,.int .i64 (f j).2] 51 (0,0)) zerO).drew (j+1) hjn2
    unfold Yqp zerO at c4 c5
    clear hc hr hr0 hg
    go_enter Tryz.func117,Tryz.ntmps117
    go_wp2
    go_region
    go_wp2
    refine bodyPost_ret (results_cell_row rfl _ _ w.heap.size 142 _ (0,0) _ rfl (Ycz w _ _ _ _) Tryz.underlying142 rfl (by kernel_rfl)) rfl ?_
    exact ⟨by rw [HU.out,HR.out,HL.out];rfl,(KT.out _ _ _ _).drew⟩
   ·rw [if_neg hg] at HR
    have t2:decide ((c:Int)<(A:Int)-1)=false:=decide_eq_false (by omega)
    clear m3 m6 hup
    obtain ⟨c2,c3⟩:=hr _ (KT.out Yqp zerO zerO zerO).drew j hjn
    unfold Yqp zerO at c2 c3
    clear hc hr hr0 hg
    go_enter Tryz.func117,Tryz.ntmps117
    go_wp2
    go_region
    go_wp2
    refine bodyPost_ret (results_cell_row rfl _ _ w.heap.size 142 _ (0,0) _ rfl (Ycz w _ _ _ _) Tryz.underlying142 rfl (by kernel_rfl)) rfl ?_
    exact ⟨by rw [HU.out,HR.out,HL.out];rfl,(KT.out _ _ _ _).drew⟩
def Yde (x:Int×Int) (w:World) (e:Ending) (w':World):Prop:=e = .returned (.agg (Ydb x.1 x.2))∧Below w.heap.size w w'
theorem Yjv {w:World} {N:Nat} {x y z:Int×Int} (h:w.heap[N]? = some (.cells (Ysl x y z) 142 (0,0))):
  (w.cell? ⟨N,0,none⟩=some (.int .i64 x.1)∧w.cell? ⟨N,2,none⟩=some (.int .i64 y.1)∧w.cell? ⟨N,4,none⟩=some (.int .i64 z.1))∧w.cell? ⟨N,1,none⟩=some (.int .i64 x.2)∧w.cell? ⟨N,3,none⟩=some (.int .i64 y.2)∧w.cell? ⟨N,5,none⟩=some (.int .i64 z.2):=by
 have k:=fun (o:Nat) (v:Value) (hv:[Value.int .i64 x.1,.int .i64 x.2,.int .i64 y.1,.int .i64 y.2,.int .i64 z.1,.int .i64 z.2][o]? = some v)=> Yab (o:=o) (cs:=[.int .i64 x.1,.int .i64 x.2,.int .i64 y.1,.int .i64 y.2,.int .i64 z.1,.int .i64 z.2]) h hv
 exact ⟨⟨k 0 _ rfl,k 2 _ rfl,k 4 _ rfl⟩,k 1 _ rfl,k 3 _ rfl,k 5 _ rfl⟩
theorem Yoa (w:World) (o1 o2:Obj):((w.alloc o1).alloc o2).heap[w.heap.size]? = some o1:=Yap (heap_alloc_new w o1)
set_option maxHeartbeats 2000000 in
theorem Yrv (f:Nat→Int×Int) (p:Option Addr) (n cap:Nat) (across first:Int) (w:World) (ha:Yea w p n f) (hn:n≤maxLen) (hA:across≤9223372036854775807):
  Calls Tryz.prog 90 #[.slice p n cap,.int .i64 across,.int .i64 first] w (Yde (Ywm f n across first) w):=by
 have HM:=Lib.hid (show Ywm f n across first=if across<1 then (0,0) else (Ycv (Yl3 f n across.toNat).1 (Ysz f n across.toNat first).1 (Ys3 f n across.toNat first).1,Ycv (Yl3 f n across.toNat).2 (Ysz f n across.toNat first).2 (Ys3 f n across.toNat first).2) from rfl)
 generalize Ywm f n across first=M at *
 by_cases h1:across<1
 ·have t0:decide (across<1)=true:=decide_eq_true h1
  rw [if_pos h1] at HM
  clear ha hn hA h1
  go_enter Tryz.func90,Tryz.ntmps90
  go_wp2
  refine bodyPost_ret (results_cell_row rfl _ _ w.heap.size 51 _ (0,0) _ rfl (Yoa w _ _) Tryz.underlying51 rfl (by kernel_rfl)) rfl ?_
  exact ⟨by rw [HM.out];rfl,((Below.refl _ w).alloc (Nat.le_refl _) _).alloc (by simp) _⟩
 ·have t0:decide (across<1)=false:=decide_eq_false h1
  rw [if_neg h1] at HM
  obtain ⟨A,rfl⟩:∃A:Nat,across=(A:Int):=⟨across.toNat,by omega⟩
  rw [Int.toNat_natCast] at HM
  have c:=fun x (hx:Below w.heap.size w x)=> Yom f p n cap A first x (ha.mono hx) hn (by omega) (by omega)
  have HT:Below w.heap.size w ((w.alloc zerO).alloc zerO):=((Below.refl _ w).alloc (Nat.le_refl _) _).alloc (by simp) _
  generalize Yl3 f n A=L at *
  generalize Ysz f n A first=U at *
  generalize Ys3 f n A first=R at *
  have T1:=Yoa w zerO zerO
  have T2:((w.alloc zerO).alloc zerO).heap[w.heap.size+1]? = some zerO:=by simpa using heap_alloc_new (w.alloc zerO) zerO
  have T3:((w.alloc zerO).alloc zerO).heap.size=w.heap.size+2:=by simp
  obtain ⟨wA,hwA⟩:∃wA,(w.alloc zerO).alloc zerO=wA:=⟨_,rfl⟩
  have HC:=Lib.hid (c wA (hwA▸HT))
  rw [hwA] at T1 T2 T3 HT
  obtain ⟨B,hB⟩:∃B,w.heap.size=B:=⟨_,rfl⟩
  rw [hB] at T1 T2 T3 HT
  have HW:=Lib.hid hwA
  have HB:=Lib.hid hB
  unfold zerO at HW
  clear c ha hn h1 hA hB hwA
  go_enter Tryz.func90,Tryz.ntmps90
  go_wp2_with fail
  rw [HW.out,HB.out]
  go_wp2_with (with_reducible refine HC.out.mono ?_;rintro e w1 ⟨rfl,hb1⟩;obtain ⟨N,hN⟩:∃N,w1.heap.size=N:=⟨_,rfl⟩;have hz1:B+2≤N:=(by have:=hb1.size;omega);have K0:=(hb1.block B (by omega)).trans T1;have K1:=(hb1.block (B+1) (by omega)).trans T2;have KB:Below B w w1:=HT.trans (hb1.mono (by omega));clear hb1 T1 T2 T3 HT;have hN2:=Lib.hid hN;unfold Ysl)
  have K2:=heap_alloc_new w1 (.cells (Ysl L U R) 142 (0,0))
  rw [hN] at K2
  have K3:Below B w (w1.alloc (.cells (Ysl L U R) 142 (0,0))):=KB.alloc (by omega) _
  have K4:(w1.alloc (.cells (Ysl L U R) 142 (0,0))).heap.size=N+1:=by simp [hN]
  replace K0:=Yap (ob:=.cells (Ysl L U R) 142 (0,0)) K0
  replace K1:=Yap (ob:=.cells (Ysl L U R) 142 (0,0)) K1
  change Code.wp _ _ _ _ (w1.alloc (.cells (Ysl L U R) 142 (0,0)))
  generalize w1.alloc (.cells (Ysl L U R) 142 (0,0))=w2 at *
  clear hN hN2 KB
  obtain ⟨l0,l1⟩:=L
  obtain ⟨u0,u1⟩:=U
  obtain ⟨r0,r1⟩:=R
  obtain ⟨m0,hm0⟩:∃m,Ycv l0 u0 r0=m:=⟨_,rfl⟩
  obtain ⟨m1,hm1⟩:∃m,Ycv l1 u1 r1=m:=⟨_,rfl⟩
  have C0:=Lib.hid (fun w=> Yja l0 u0 r0 w)
  have C1:=Lib.hid (fun w=> Yja l1 u1 r1 w)
  rw [hm0] at C0
  rw [hm1] at C1
  replace HM:=Lib.hid (show M=(m0,m1) by rw [HM.out,←hm0,←hm1])
  clear hm0 hm1 HC HW
  go_loopw [17] (fun z wr=>∃j:Nat,j≤2∧z = .int .i64 j∧wr.heap[B]? = some zerO∧wr.heap[B+1]? = some (.cells (Ydb (if 0<j then m0 else 0) (if 1<j then m1 else 0)) 51 (0,0))∧wr.heap[N]? = some (.cells (Ysl (l0,l1) (u0,u1) (r0,r1)) 142 (0,0))∧Below B w wr∧N+1≤wr.heap.size) (fun z _=> 2-(intOf z).toNat)
  case atStart=> exact ⟨0,by omega,rfl,K0,K1,K2,K3,by omega⟩
  case round=>
   clear K0 K1 K2 K3 K4
   obtain ⟨j,hj,rfl,k0,k1,k2,kb,kz⟩:=hrel
   obtain ⟨⟨x0,x1,x2⟩,x3,x4,x5⟩:=Yjv k2
   have hcase:j=0∨j=1∨j=2:=by omega
   rcases hcase with rfl | rfl | rfl
   ·go_wp2
    have C:=Lib.hid (fun (x:World) (hx:Below wr.heap.size wr x)=> (C0.out x).mono fun e y h=> (⟨h.1,h.2▸hx⟩:e = .returned (.int .i64 m0)∧Below wr.heap.size wr y))
    have HX:=Lib.hid (fun (x:World) (hx:Below wr.heap.size wr x)=> Yjv ((hx.block N (by omega)).trans k2))
    refine Yah (S:=fun x=> Below wr.heap.size wr x) 15 (by kernel_rfl) (by kernel_rfl) (Below.refl _ _).drew ?_
    simp only [List.take_succ_cons,List.take_zero,List.drop_succ_cons,List.drop_zero]
    iterate 4 (refine Yaa (by kernel_rfl) (fun x _=> by go_simp;try with_reducible rfl) ?_;simp only [Act.put,List.setIfInBounds_toArray,List.set_cons_zero,List.set_cons_succ])
    refine Yae 3 _ ⟨(N),0,none⟩ (.int .i64 l0) (by kernel_rfl) rfl rfl (fun x hx=> by have c0:=(HX.out x hx).1.1;go_simp) ?_;simp only [Act.put,List.setIfInBounds_toArray,List.set_cons_zero,List.set_cons_succ]
    iterate 3 (refine Yaa (by kernel_rfl) (fun x _=> by go_simp;try with_reducible rfl) ?_;simp only [Act.put,List.setIfInBounds_toArray,List.set_cons_zero,List.set_cons_succ])
    refine Yae 3 _ ⟨(N),2,none⟩ (.int .i64 u0) (by kernel_rfl) rfl rfl (fun x hx=> by have c0:=(HX.out x hx).1.2.1;go_simp) ?_;simp only [Act.put,List.setIfInBounds_toArray,List.set_cons_zero,List.set_cons_succ]
    iterate 3 (refine Yaa (by kernel_rfl) (fun x _=> by go_simp;try with_reducible rfl) ?_;simp only [Act.put,List.setIfInBounds_toArray,List.set_cons_zero,List.set_cons_succ])
    refine Yae 3 _ ⟨(N),4,none⟩ (.int .i64 r0) (by kernel_rfl) rfl rfl (fun x hx=> by have c0:=(HX.out x hx).1.2.2;go_simp) ?_;simp only [Act.put,List.setIfInBounds_toArray,List.set_cons_zero,List.set_cons_succ]
    refine Yaf (by kernel_rfl) C.out (fun _=> by kernel_rfl) ?_;simp only [Act.put,List.setIfInBounds_toArray,List.set_cons_zero,List.set_cons_succ]
    refine Yaa (by kernel_rfl) (fun x _=> by go_simp;try with_reducible rfl) ?_;simp only [Act.put,List.setIfInBounds_toArray,List.set_cons_zero,List.set_cons_succ]
    refine Yas fun x hx=> ?_
    have q1:x.heap[B+1]? = some (.cells (Ydb 0 0) 51 (0,0)):=(hx.block (B+1) (by omega)).trans k1
    have y0:=(Yd1 q1).1
    have ff:x.frozen? ⟨B+1,0,none⟩=false:=Yan (cs:=[.int .i64 0,.int .i64 0]) q1
    have PUT:=Lib.hid (⟨Yfn ((hx.block B (by omega)).trans k0) (by simp),Yba (o:=0) (cs:=[.int .i64 0,.int .i64 0]) (.int .i64 m0) q1,Yfn ((hx.block N (by omega)).trans k2) (by simp;omega),(kb.trans (hx.mono (by omega))).setCell (by simp) _,by simp [World.setCell];have:=hx.size;omega⟩:(x.setCell ⟨B+1,0,none⟩ (.int .i64 m0)).heap[B]? = some zerO∧(x.setCell ⟨B+1,0,none⟩ (.int .i64 m0)).heap[B+1]? = some (.cells (Ydb m0 0) 51 (0,0))∧(x.setCell ⟨B+1,0,none⟩ (.int .i64 m0)).heap[N]? = some (.cells (Ysl (l0,l1) (u0,u1) (r0,r1)) 142 (0,0))∧Below B w (x.setCell ⟨B+1,0,none⟩ (.int .i64 m0))∧N+1≤(x.setCell ⟨B+1,0,none⟩ (.int .i64 m0)).heap.size)
    clear q1
    go_wp2
    go_roundw
    case rel=> exact ⟨1,by omega,rfl,PUT.out⟩
    case measure=> simp [intOf]
   ·go_wp2
    have C:=Lib.hid (fun (x:World) (hx:Below wr.heap.size wr x)=> (C1.out x).mono fun e y h=> (⟨h.1,h.2▸hx⟩:e = .returned (.int .i64 m1)∧Below wr.heap.size wr y))
    have HX:=Lib.hid (fun (x:World) (hx:Below wr.heap.size wr x)=> Yjv ((hx.block N (by omega)).trans k2))
    refine Yah (S:=fun x=> Below wr.heap.size wr x) 15 (by kernel_rfl) (by kernel_rfl) (Below.refl _ _).drew ?_
    simp only [List.take_succ_cons,List.take_zero,List.drop_succ_cons,List.drop_zero]
    iterate 4 (refine Yaa (by kernel_rfl) (fun x _=> by go_simp;try with_reducible rfl) ?_;simp only [Act.put,List.setIfInBounds_toArray,List.set_cons_zero,List.set_cons_succ])
    refine Yae 3 _ ⟨(N),1,none⟩ (.int .i64 l1) (by kernel_rfl) rfl rfl (fun x hx=> by have c0:=(HX.out x hx).2.1;go_simp) ?_;simp only [Act.put,List.setIfInBounds_toArray,List.set_cons_zero,List.set_cons_succ]
    iterate 3 (refine Yaa (by kernel_rfl) (fun x _=> by go_simp;try with_reducible rfl) ?_;simp only [Act.put,List.setIfInBounds_toArray,List.set_cons_zero,List.set_cons_succ])
    refine Yae 3 _ ⟨(N),3,none⟩ (.int .i64 u1) (by kernel_rfl) rfl rfl (fun x hx=> by have c0:=(HX.out x hx).2.2.1;go_simp) ?_;simp only [Act.put,List.setIfInBounds_toArray,List.set_cons_zero,List.set_cons_succ]
    iterate 3 (refine Yaa (by kernel_rfl) (fun x _=> by go_simp;try with_reducible rfl) ?_;simp only [Act.put,List.setIfInBounds_toArray,List.set_cons_zero,List.set_cons_succ])
    refine Yae 3 _ ⟨(N),5,none⟩ (.int .i64 r1) (by kernel_rfl) rfl rfl (fun x hx=> by have c0:=(HX.out x hx).2.2.2;go_simp) ?_;simp only [Act.put,List.setIfInBounds_toArray,List.set_cons_zero,List.set_cons_succ]
    refine Yaf (by kernel_rfl) C.out (fun _=> by kernel_rfl) ?_;simp only [Act.put,List.setIfInBounds_toArray,List.set_cons_zero,List.set_cons_succ]
    refine Yaa (by kernel_rfl) (fun x _=> by go_simp;try with_reducible rfl) ?_;simp only [Act.put,List.setIfInBounds_toArray,List.set_cons_zero,List.set_cons_succ]
    refine Yas fun x hx=> ?_
    have q1:x.heap[B+1]? = some (.cells (Ydb m0 0) 51 (0,0)):=(hx.block (B+1) (by omega)).trans k1
    have y1:=(Yd1 q1).2
    have ff:x.frozen? ⟨B+1,1,none⟩=false:=Yan (cs:=[.int .i64 m0,.int .i64 0]) q1
    have PUT:=Lib.hid (⟨Yfn ((hx.block B (by omega)).trans k0) (by simp),Yba (o:=1) (cs:=[.int .i64 m0,.int .i64 0]) (.int .i64 m1) q1,Yfn ((hx.block N (by omega)).trans k2) (by simp;omega),(kb.trans (hx.mono (by omega))).setCell (by simp) _,by simp [World.setCell];have:=hx.size;omega⟩:(x.setCell ⟨B+1,1,none⟩ (.int .i64 m1)).heap[B]? = some zerO∧(x.setCell ⟨B+1,1,none⟩ (.int .i64 m1)).heap[B+1]? = some (.cells (Ydb m0 m1) 51 (0,0))∧(x.setCell ⟨B+1,1,none⟩ (.int .i64 m1)).heap[N]? = some (.cells (Ysl (l0,l1) (u0,u1) (r0,r1)) 142 (0,0))∧Below B w (x.setCell ⟨B+1,1,none⟩ (.int .i64 m1))∧N+1≤(x.setCell ⟨B+1,1,none⟩ (.int .i64 m1)).heap.size)
    clear q1
    go_wp2
    go_roundw
    case rel=> exact ⟨2,by omega,rfl,PUT.out⟩
    case measure=> simp [intOf]
   ·obtain ⟨y0,y1⟩:=Yd1 (a:=m0) (b:=m1) k1
    unfold zerO at k0
    have g1:(Tryz.prog.info? 51).map (·.size)=some (#[.int .i64 m0,.int .i64 m1]:Array Value).size:=Yfs
    have g2:(#[.int .i64 0,.int .i64 0]:Array Value).size=(#[.int .i64 m0,.int .i64 m1]:Array Value).size:=rfl
    have g3:(#[.int .i64 m0,.int .i64 m1]:Array Value).all (·.oneCell')=true:=Yhz m0 m1
    go_wp2_with (with_reducible refine Yao rfl 51 _ _ rfl B #[.int .i64 m0,.int .i64 m1] #[.int .i64 0,.int .i64 0] rfl rfl 51 k0 g1 g2 g3 ?_;intro w3 hh3 hg3)
    refine bodyPost_ret (results_cell_row rfl _ _ B 51 _ (0,0) _ rfl hh3 Tryz.underlying51 rfl (by kernel_rfl)) rfl ?_
    exact ⟨by rw [HM.out];rfl,by rw [HB.out];exact kb.grown hg3 (by omega) (fun k hk=> by injection hk with hk;omega)⟩
set_option maxRecDepth 100000 in
theorem Ygb (k:Int) (w:World):Calls Tryz.prog 43 #[.int .i64 k] w fun e w'=> e = .returned (.int .i64 (acr k:Int))∧Below w.heap.size w w':=by
 have c:=fun w=> Ydj k w
 obtain ⟨d1,-⟩:=Ys6 k
 obtain ⟨-,-,-,-,m1,m2⟩:=Ycm k
 have w1:IntKind.i64.wrap (acr k:Int)=(acr k:Int):=Yc8 (by omega)
 have ix0:=fun w=> (Ydi (Yf4 k) (Ygi k) (Yf3 k) (Yfm k) w).1
 have ix1:=fun w=> (Ydi (Yf4 k) (Ygi k) (Yf3 k) (Yfm k) w).2
 unfold Ys2 at c
 clear m1 m2
 generalize acr k=a at *
 generalize Yf4 k=W at *
 generalize Ygi k=H at *
 generalize Yf3 k=R at *
 generalize Yfm k=L at *
 go_enter Tryz.func43,Tryz.ntmps43
 go_wp2_with fail
 refine (c _).mono ?_
 rintro e x1 ⟨rfl,hb1⟩
 go_wp2
 go_ret
 exact ⟨rfl,hb1⟩
theorem Yty (k n:Int) (w:World):Calls Tryz.prog 104 #[.int .i64 k,.int .i64 n] w fun e w'=> e = .returned (.bool (Yvr k n))∧w=w':=by
 have c:=fun w=> Yel k w
 obtain ⟨h1,h2,_⟩:=Ycm k
 rw [←h1,←h2] at c
 have hs:(acr k:Int)*(dow k:Int)=(Yct k:Int):=(Int.natCast_mul _ _).symm
 have hw:IntKind.i64.wrap (Yct k:Int)=(Yct k:Int):=Yc8 (by have:=Yko k;omega)
 have hq:=Lib.hid (show Yvr k n=(decide (0≤n)&&decide (n<(Yct k:Int))) from rfl)
 generalize Yvr k n=y at *
 clear h1 h2
 generalize acr k=a at *
 generalize dow k=b at *
 generalize Yct k=m at *
 cases t0:decide (0≤n)
 ·rw [t0] at hq
  go_enter Tryz.func104,Tryz.ntmps104
  go_wp2_with (with_reducible refine (c _).mono ?_;rintro e w1 ⟨rfl,rfl⟩)
  go_ret
  exact ⟨Yad (by rw [hq.out];rfl),rfl⟩
 ·rw [t0] at hq
  go_enter Tryz.func104,Tryz.ntmps104
  go_wp2_with (with_reducible refine (c _).mono ?_;rintro e w1 ⟨rfl,rfl⟩)
  go_ret
  exact ⟨Yad (by rw [hq.out];rfl),rfl⟩
theorem Yk4 (c m:Nat) (v:Int) (w:World) (hc:c≤1000) (hm:m≤1000):Calls Tryz.prog 105 #[.int .i64 (c:Int),.int .i64 (m:Int),.int .i64 v] w fun e w'=> e = .returned (.bool (Ycb c m v))∧w=w':=by
 have hq:=Lib.hid (show Ycb c m v=(decide (-32≤v∧v≤31)&&decide (0≤32*(c:Int)+v∧32*(c:Int)+v+30≤32*(m:Int)-2)) from rfl)
 generalize Ycb c m v=y at *
 by_cases h1:v < -32
 ·have t1:decide (v < -32)=true:=decide_eq_true h1
  rw [decide_eq_false (show ¬ (-32≤v∧v≤31) by omega)] at hq
  go_enter Tryz.func105,Tryz.ntmps105
  go_wp2
  go_ret
  exact ⟨Yad (by rw [hq.out];rfl),rfl⟩
 have t1:decide (v < -32)=false:=decide_eq_false h1
 by_cases h2:31<v
 ·have t2:decide (31<v)=true:=decide_eq_true h2
  rw [decide_eq_false (show ¬ (-32≤v∧v≤31) by omega)] at hq
  go_enter Tryz.func105,Tryz.ntmps105
  go_wp2
  go_ret
  exact ⟨Yad (by rw [hq.out];rfl),rfl⟩
 have t2:decide (31<v)=false:=decide_eq_false h2
 rw [decide_eq_true (show -32≤v∧v≤31 by omega)] at hq
 by_cases h3:0≤32*(c:Int)+v
 ·have t3:decide (0≤32*(c:Int)+v)=true:=decide_eq_true h3
  have hr:decide (0≤32*(c:Int)+v∧32*(c:Int)+v+30≤32*(m:Int)-2)=decide (32*(c:Int)+v+30≤2*(16*(m:Int)-1)):=by
   by_cases h:32*(c:Int)+v+30≤2*(16*(m:Int)-1)
   ·rw [decide_eq_true h,decide_eq_true];omega
   ·rw [decide_eq_false h,decide_eq_false];omega
  rw [hr] at hq
  clear hr
  go_enter Tryz.func105,Tryz.ntmps105
  go_wp2
  go_ret
  exact ⟨Yad (by rw [hq.out];rfl),rfl⟩
 ·have t3:decide (0≤32*(c:Int)+v)=false:=decide_eq_false h3
  rw [decide_eq_false (show ¬ (0≤32*(c:Int)+v∧32*(c:Int)+v+30≤32*(m:Int)-2) by omega)] at hq
  go_enter Tryz.func105,Tryz.ntmps105
  go_wp2
  go_ret
  exact ⟨Yad (by rw [hq.out];rfl),rfl⟩
theorem Ypz {k:Int} {n:Nat} (h:n<Yct k):(n:Int).tmod (acr k:Int)=((n%acr k:Nat):Int)∧(n:Int).tdiv (acr k:Int)=((n / acr k:Nat):Int)∧IntKind.i64.wrap ((n / acr k:Nat):Int)=((n / acr k:Nat):Int)∧((acr k:Int)==0)=false∧n%acr k<acr k∧n / acr k<dow k∧acr k≤88∧dow k≤72:=by
 obtain ⟨h0,h1,h2⟩:=Yq9 h
 obtain ⟨-,-,-,-,h3,h4⟩:=Ycm k
 refine ⟨by rw [Int.tmod_eq_emod_of_nonneg (by omega)];rfl,by rw [Int.tdiv_eq_ediv_of_nonneg (by omega)];rfl,Ypr (by omega),by simp;omega,h1,h2,h3,h4⟩
set_option maxRecDepth 100000 in
set_option maxHeartbeats 2000000 in
theorem Ywk (k n a b:Int) (w:World):Calls Tryz.prog 77 #[.int .i64 k,.int .i64 n,.agg (Ydb a b)] w fun e w'=> e = .returned (.bool (Yp7 k n a b))∧Below w.heap.size w w':=by
 have c1:=fun w=> Yty k n w
 have c2:=fun w=> Yel k w
 obtain ⟨e1,e2,-⟩:=Ycm k
 rw [←e1,←e2] at c2
 clear e1 e2
 have hq:=Lib.hid (show Yp7 k n a b=(Yvr k n&&(Ycb (n.toNat%acr k) (acr k) a&&Ycb (n.toNat / acr k) (dow k) b)) from rfl)
 generalize Yp7 k n a b=y at *
 obtain ⟨B,hB⟩:∃B,w.heap.size=B:=⟨_,rfl⟩
 obtain ⟨wA,hwA⟩:∃wA,w.alloc (.cells (Ydb a b) 51 (0,0))=wA:=⟨_,rfl⟩
 have hA:wA.heap[B]? = some (.cells (Ydb a b) 51 (0,0)):=by rw [←hwA,←hB];exact heap_alloc_new w _
 have hz:wA.heap.size=B+1:=by rw [←hwA,←hB];simp
 have HC:=Lib.hid (fun (x:World) (hx:Below (B+1) wA x)=> Yd1 ((hx.block B (by omega)).trans hA))
 have hb:Below w.heap.size w wA:=by rw [←hwA];exact (Below.refl _ w).alloc (Nat.le_refl _) _
 have HE:=Lib.hid (fun (x:World) (hx:Below (B+1) wA x)=> (hb.trans (hx.mono (by omega)):Below w.heap.size w x))
 unfold Ydb at *
 have HWA:=Lib.hid hwA
 have HB:=Lib.hid hB
 clear hA hz hb hwA hB
 cases hc:Yvr k n with
 | false=>
  rw [hc] at c1 hq
  clear hc
  go_enter Tryz.func77,Tryz.ntmps77
  go_wp2_with (first | (with_reducible refine (c1 _).mono ?_;rintro e w1 ⟨rfl,rfl⟩) | (with_reducible refine (c2 _).mono ?_;rintro e w1 ⟨rfl,rfl⟩))
  go_ret
  exact ⟨Yad (by rw [hq.out];rfl),by rw [HWA.out];exact HE.out _ (Below.refl _ _)⟩
 | true=>
  rw [hc] at c1 hq
  obtain ⟨q0,q1⟩:=Yl0.1 hc
  obtain ⟨q,rfl⟩:∃q:Nat,n=(q:Int):=⟨n.toNat,by omega⟩
  rw [Int.toNat_natCast] at hq q1
  obtain ⟨r1,r2,r3,z0,m1,m2,m3,m4⟩:=Ypz q1
  have C3:=Lib.hid (fun x (hx:Below (B+1) wA x)=> (Yk4 (q%acr k) (acr k) a x (by omega) (by omega)).mono fun e y h=> (⟨h.1,h.2▸hx⟩:e = .returned (.bool (Ycb (q%acr k) (acr k) a))∧Below (B+1) wA y))
  have C4:=Lib.hid (fun x (hx:Below (B+1) wA x)=> (Yk4 (q / acr k) (dow k) b x (by omega) (by omega)).mono fun e y h=> (⟨h.1,h.2▸hx⟩:e = .returned (.bool (Ycb (q / acr k) (dow k) b))∧Below (B+1) wA y))
  clear hc q1 q0
  generalize q%acr k=u at *
  generalize q / acr k=v at *
  generalize acr k=A at *
  generalize dow k=D at *
  cases hx:Ycb u A a with
  | false=>
   rw [hx] at C3 hq
   go_enter Tryz.func77,Tryz.ntmps77
   go_wp2_with (first | (with_reducible refine (c1 _).mono ?_;rintro e w1 ⟨rfl,rfl⟩) | (with_reducible refine (c2 _).mono ?_;rintro e w1 ⟨rfl,rfl⟩))
   rw [HWA.out,HB.out]
   refine Yah (S:=fun x=> Below (B+1) wA x) 17 (by kernel_rfl) (by kernel_rfl) (Below.refl _ _).drew ?_
   simp only [List.take_succ_cons,List.take_zero,List.drop_succ_cons,List.drop_zero]
   refine Yaa (v:=?vp0) (by kernel_rfl) ?m ?_;(case m=> (intro x _;go_simp;try with_reducible rfl))
   simp only [Act.put,List.setIfInBounds_toArray,List.set_cons_zero,List.set_cons_succ]
   refine Yaa (v:=?vp1) (by kernel_rfl) ?m ?_;(case m=> (intro x _;go_simp;try with_reducible rfl))
   simp only [Act.put,List.setIfInBounds_toArray,List.set_cons_zero,List.set_cons_succ]
   refine Yaa (v:=?vp2) (by kernel_rfl) ?m ?_;(case m=> (intro x _;go_simp;rw [if_neg (by omega)]))
   simp only [Act.put,List.setIfInBounds_toArray,List.set_cons_zero,List.set_cons_succ]
   refine Yaa (v:=?vp3) (by kernel_rfl) ?m ?_;(case m=> (intro x _;go_simp;try with_reducible rfl))
   simp only [Act.put,List.setIfInBounds_toArray,List.set_cons_zero,List.set_cons_succ]
   refine Yaa (v:=?vp4) (by kernel_rfl) ?m ?_;(case m=> (intro x _;go_simp;try with_reducible rfl))
   simp only [Act.put,List.setIfInBounds_toArray,List.set_cons_zero,List.set_cons_succ]
   refine Yae 3 _ ⟨B,0,none⟩ (.int .i64 a) (by kernel_rfl) rfl rfl (fun x hx=> by have c0:=(HC.out x hx).1;go_simp) ?_
   simp only [Act.put,List.setIfInBounds_toArray,List.set_cons_zero,List.set_cons_succ]
   refine Yaf (by kernel_rfl) C3.out (fun _=> by kernel_rfl) ?_
   simp only [Act.put,List.setIfInBounds_toArray,List.set_cons_zero,List.set_cons_succ]
   refine Yaa (v:=?vp7) (by kernel_rfl) ?m ?_;(case m=> (intro x _;go_simp;try with_reducible rfl))
   simp only [Act.put,List.setIfInBounds_toArray,List.set_cons_zero,List.set_cons_succ]
   refine Ya4 (by kernel_rfl) ?_
   simp only [Act.put,List.setIfInBounds_toArray,List.set_cons_zero,List.set_cons_succ]
   refine Ya4 (by kernel_rfl) ?_
   simp only [Act.put,List.setIfInBounds_toArray,List.set_cons_zero,List.set_cons_succ]
   refine Ya4 (by kernel_rfl) ?_
   simp only [Act.put,List.setIfInBounds_toArray,List.set_cons_zero,List.set_cons_succ]
   refine Ya4 (by kernel_rfl) ?_
   simp only [Act.put,List.setIfInBounds_toArray,List.set_cons_zero,List.set_cons_succ]
   refine Ya4 (by kernel_rfl) ?_
   simp only [Act.put,List.setIfInBounds_toArray,List.set_cons_zero,List.set_cons_succ]
   refine Ya4 (by kernel_rfl) ?_
   simp only [Act.put,List.setIfInBounds_toArray,List.set_cons_zero,List.set_cons_succ]
   refine Ya4 (by kernel_rfl) ?_
   simp only [Act.put,List.setIfInBounds_toArray,List.set_cons_zero,List.set_cons_succ]
   refine Yaa (v:=?vp15) (by kernel_rfl) ?m ?_;(case m=> (intro x _;go_simp;try with_reducible rfl))
   simp only [Act.put,List.setIfInBounds_toArray,List.set_cons_zero,List.set_cons_succ]
   refine Yaa (v:=?vp16) (by kernel_rfl) ?m ?_;(case m=> (intro x _;go_simp;try with_reducible rfl))
   simp only [Act.put,List.setIfInBounds_toArray,List.set_cons_zero,List.set_cons_succ]
   refine Yas fun x hx=> ?_
   go_wp2
   go_ret
   exact ⟨Yad (by rw [hq.out];rfl),HE.out _ hx⟩
  | true=>
   rw [hx] at C3 hq
   go_enter Tryz.func77,Tryz.ntmps77
   go_wp2_with (first | (with_reducible refine (c1 _).mono ?_;rintro e w1 ⟨rfl,rfl⟩) | (with_reducible refine (c2 _).mono ?_;rintro e w1 ⟨rfl,rfl⟩))
   rw [HWA.out,HB.out]
   refine Yah (S:=fun x=> Below (B+1) wA x) 17 (by kernel_rfl) (by kernel_rfl) (Below.refl _ _).drew ?_
   simp only [List.take_succ_cons,List.take_zero,List.drop_succ_cons,List.drop_zero]
   refine Yaa (v:=?vq0) (by kernel_rfl) ?m ?_;(case m=> (intro x _;go_simp;try with_reducible rfl))
   simp only [Act.put,List.setIfInBounds_toArray,List.set_cons_zero,List.set_cons_succ]
   refine Yaa (v:=?vq1) (by kernel_rfl) ?m ?_;(case m=> (intro x _;go_simp;try with_reducible rfl))
   simp only [Act.put,List.setIfInBounds_toArray,List.set_cons_zero,List.set_cons_succ]
   refine Yaa (v:=?vq2) (by kernel_rfl) ?m ?_;(case m=> (intro x _;go_simp;rw [if_neg (by omega)]))
   simp only [Act.put,List.setIfInBounds_toArray,List.set_cons_zero,List.set_cons_succ]
   refine Yaa (v:=?vq3) (by kernel_rfl) ?m ?_;(case m=> (intro x _;go_simp;try with_reducible rfl))
   simp only [Act.put,List.setIfInBounds_toArray,List.set_cons_zero,List.set_cons_succ]
   refine Yaa (v:=?vq4) (by kernel_rfl) ?m ?_;(case m=> (intro x _;go_simp;try with_reducible rfl))
   simp only [Act.put,List.setIfInBounds_toArray,List.set_cons_zero,List.set_cons_succ]
   refine Yae 3 _ ⟨B,0,none⟩ (.int .i64 a) (by kernel_rfl) rfl rfl (fun x hx=> by have c0:=(HC.out x hx).1;go_simp) ?_
   simp only [Act.put,List.setIfInBounds_toArray,List.set_cons_zero,List.set_cons_succ]
   refine Yaf (by kernel_rfl) C3.out (fun _=> by kernel_rfl) ?_
   simp only [Act.put,List.setIfInBounds_toArray,List.set_cons_zero,List.set_cons_succ]
   refine Yaa (v:=?vq7) (by kernel_rfl) ?m ?_;(case m=> (intro x _;go_simp;try with_reducible rfl))
   simp only [Act.put,List.setIfInBounds_toArray,List.set_cons_zero,List.set_cons_succ]
   refine Yaa (v:=?vq8) (by kernel_rfl) ?m ?_;(case m=> (intro x _;go_simp;try with_reducible rfl))
   simp only [Act.put,List.setIfInBounds_toArray,List.set_cons_zero,List.set_cons_succ]
   refine Yaa (v:=?vq9) (by kernel_rfl) ?m ?_;(case m=> (intro x _;go_simp;try with_reducible rfl))
   simp only [Act.put,List.setIfInBounds_toArray,List.set_cons_zero,List.set_cons_succ]
   refine Yaa (v:=?vq10) (by kernel_rfl) ?m ?_;(case m=> (intro x _;go_simp;rw [if_neg (by omega)]))
   simp only [Act.put,List.setIfInBounds_toArray,List.set_cons_zero,List.set_cons_succ]
   refine Yaa (v:=?vq11) (by kernel_rfl) ?m ?_;(case m=> (intro x _;go_simp;try with_reducible rfl))
   simp only [Act.put,List.setIfInBounds_toArray,List.set_cons_zero,List.set_cons_succ]
   refine Yaa (v:=?vq12) (by kernel_rfl) ?m ?_;(case m=> (intro x _;go_simp;try with_reducible rfl))
   simp only [Act.put,List.setIfInBounds_toArray,List.set_cons_zero,List.set_cons_succ]
   refine Yae 3 _ ⟨B,1,none⟩ (.int .i64 b) (by kernel_rfl) rfl rfl (fun x hx=> by have c0:=(HC.out x hx).2;go_simp) ?_
   simp only [Act.put,List.setIfInBounds_toArray,List.set_cons_zero,List.set_cons_succ]
   refine Yaf (by kernel_rfl) C4.out (fun _=> by kernel_rfl) ?_
   simp only [Act.put,List.setIfInBounds_toArray,List.set_cons_zero,List.set_cons_succ]
   refine Yaa (v:=?vq15) (by kernel_rfl) ?m ?_;(case m=> (intro x _;go_simp;try with_reducible rfl))
   simp only [Act.put,List.setIfInBounds_toArray,List.set_cons_zero,List.set_cons_succ]
   refine Yaa (v:=?vq16) (by kernel_rfl) ?m ?_;(case m=> (intro x _;go_simp;try with_reducible rfl))
   simp only [Act.put,List.setIfInBounds_toArray,List.set_cons_zero,List.set_cons_succ]
   refine Yas fun x hx=> ?_
   go_wp2
   go_ret
   exact ⟨Yad (by rw [hq.out];rfl),HE.out _ hx⟩
theorem Yhb (w:World) (o1:Obj):(w.alloc o1).heap[w.heap.size]? = some o1:=heap_alloc_new w o1
set_option maxHeartbeats 1000000 in
theorem Yky (p:Option Addr) (n cap:Nat) (A c q:Int) (w:World) (h:c<0∨A≤c):Calls Tryz.prog 71 #[.slice p n cap,.int .i64 A,.int .i64 c,.int .i64 q] w (Yde (0,0) w):=by
 by_cases h0:c<0
 ·have t0:decide (c<0)=true:=decide_eq_true h0
  clear h h0
  go_enter Tryz.func71,Tryz.ntmps71
  go_wp2
  refine bodyPost_ret (results_cell_row rfl _ _ w.heap.size 51 _ (0,0) _ rfl (Yhb w _) Tryz.underlying51 rfl (by kernel_rfl)) rfl ?_
  exact ⟨rfl,(Below.refl _ w).alloc (Nat.le_refl _) _⟩
 ·have t0:decide (c<0)=false:=decide_eq_false h0
  have t1:decide (A≤c)=true:=decide_eq_true (by omega)
  clear h h0
  go_enter Tryz.func71,Tryz.ntmps71
  go_wp2
  refine bodyPost_ret (results_cell_row rfl _ _ w.heap.size 51 _ (0,0) _ rfl (Yhb w _) Tryz.underlying51 rfl (by kernel_rfl)) rfl ?_
  exact ⟨rfl,(Below.refl _ w).alloc (Nat.le_refl _) _⟩
set_option maxHeartbeats 1000000 in
theorem Yhu (f:Nat→Int×Int) (p:Option Addr) (n cap:Nat) (A c q:Int) (i:Nat) (w:World) (ha:Yea w p n f) (hn:n≤maxLen) (h0:0≤c) (h1:c<A) (hq:0≤q) (hi:q*A+c=(i:Int)) (hlt:i<n):
  Calls Tryz.prog 71 #[.slice p n cap,.int .i64 A,.int .i64 c,.int .i64 q] w (Yde (f i) w):=by
 unfold maxLen at hn
 have t0:decide (c<0)=false:=decide_eq_false (by omega)
 have t1:decide (A≤c)=false:=decide_eq_false (by omega)
 obtain ⟨P,hP⟩:∃P,q*A=P:=⟨_,rfl⟩
 have hP0:0≤P:=by rw [←hP];exact Int.mul_nonneg hq (by omega)
 rw [hP] at hi
 obtain ⟨b,o,rfl,hr⟩:=Yoc ha (by omega)
 obtain ⟨c0,c1⟩:=hr (w.alloc (.cells #[.int .i64 0,.int .i64 0] 51 (0,0))) ((Below.refl _ w).alloc (Nat.le_refl _) _) i hlt
 have hlt2:(i:Int)<(n:Int):=by omega
 have wP:IntKind.i64.wrap P=P:=Yc8 (by omega)
 clear ha hr
 generalize f i=y at *
 go_enter Tryz.func71,Tryz.ntmps71
 go_wp2
 refine bodyPost_ret (results_cell_row rfl _ _ w.heap.size 51 _ (0,0) _ rfl (Yhb w _) Tryz.underlying51 rfl (by kernel_rfl)) rfl ?_
 exact ⟨rfl,(Below.refl _ w).alloc (Nat.le_refl _) _⟩
theorem Yqr (n A:Nat):(((n / A:Nat):Int)-1)*(A:Int)+((n%A:Nat):Int)=(n:Int)-(A:Int):=by
 have h2:((A:Int)*((n / A:Nat):Int)+((n%A:Nat):Int))=(n:Int):=by exact_mod_cast Nat.div_add_mod n A
 rw [Int.sub_mul,Int.one_mul,Int.mul_comm]
 omega
theorem Ywh (f:Nat→Int×Int) (p:Option Addr) (n cap A:Nat) (x:World) (ha:Yea x p n f) (hn:n≤maxLen) (h1:1≤A):
  Calls Tryz.prog 71 #[.slice p n cap,.int .i64 (A:Int),.int .i64 (((n%A:Nat):Int)-1),.int .i64 ((n / A:Nat):Int)] x (Yde (Yl3 f n A) x):=by
 obtain ⟨-,-,m3,m4,-,-⟩:=Yg7 (n:=n) h1
 unfold Yl3
 by_cases h:0<n%A
 ·rw [if_pos h]
  have h2:((A:Int)*((n / A:Nat):Int)+((n%A:Nat):Int))=(n:Int):=by exact_mod_cast Nat.div_add_mod n A
  rw [Int.mul_comm] at h2
  exact Yhu f p n cap _ _ _ (n-1) x ha hn (by omega) (by omega) (Int.natCast_nonneg _) (by have:=m4 h;omega) (by have:=m4 h;omega)
 ·rw [if_neg h]
  exact Yky p n cap _ _ _ x (by omega)
theorem Yvt (f:Nat→Int×Int) (p:Option Addr) (n cap A:Nat) (x:World) (ha:Yea x p n f) (hn:n≤maxLen) (h1:1≤A) (h:0<n / A):
  Calls Tryz.prog 71 #[.slice p n cap,.int .i64 (A:Int),.int .i64 ((n%A:Nat):Int),.int .i64 (((n / A:Nat):Int)-1)] x (Yde (f (n-A)) x):=by
 obtain ⟨-,-,m3,m4,m5,-⟩:=Yg7 (n:=n) h1
 have h2:=Yqr n A
 have h3:=m5 h
 exact Yhu f p n cap _ _ _ (n-A) x ha hn (by omega) (by omega) (by omega) (by omega) (by omega)
theorem Ywy (f:Nat→Int×Int) (p:Option Addr) (n cap A:Nat) (x:World) (ha:Yea x p n f) (hn:n≤maxLen) (h1:1≤A) (h:0<n / A):
  Calls Tryz.prog 71 #[.slice p n cap,.int .i64 (A:Int),.int .i64 (((n%A:Nat):Int)+1),.int .i64 (((n / A:Nat):Int)-1)] x (Yde (if n%A<A-1 then f (n-A+1) else (0,0)) x):=by
 obtain ⟨-,-,m3,m4,m5,-⟩:=Yg7 (n:=n) h1
 have h2:=Yqr n A
 have h3:=m5 h
 by_cases hg:n%A<A-1
 ·rw [if_pos hg]
  exact Yhu f p n cap _ _ _ (n-A+1) x ha hn (by omega) (by omega) (by omega) (by omega) (by omega)
 ·rw [if_neg hg]
  exact Yky p n cap _ _ _ x (by omega)
set_option maxHeartbeats 2000000 in
theorem Yrw (f:Nat→Int×Int) (p:Option Addr) (n cap:Nat) (across first:Int) (w:World) (ha:Yea w p n f) (hn:n≤maxLen) (hA:across≤9223372036854775807):
  Calls Tryz.prog 42 #[.slice p n cap,.int .i64 across,.int .i64 first] w (Yde (Ywm f n across first) w):=by
 have HM:=Lib.hid (show Ywm f n across first=if across<1 then (0,0) else (Ycv (Yl3 f n across.toNat).1 (Ysz f n across.toNat first).1 (Ys3 f n across.toNat first).1,Ycv (Yl3 f n across.toNat).2 (Ysz f n across.toNat first).2 (Ys3 f n across.toNat first).2) from rfl)
 generalize Ywm f n across first=M at *
 by_cases h1:across<1
 ·have t0:decide (across<1)=true:=decide_eq_true h1
  rw [if_pos h1] at HM
  clear ha hn hA h1
  go_enter Tryz.func42,Tryz.ntmps42
  go_wp2
  refine bodyPost_ret (results_cell_row rfl _ _ w.heap.size 51 _ (0,0) _ rfl (Yhb w _) Tryz.underlying51 rfl (by kernel_rfl)) rfl ?_
  exact ⟨by rw [HM.out];rfl,(Below.refl _ w).alloc (Nat.le_refl _) _⟩
 have t0:decide (across<1)=false:=decide_eq_false h1
 rw [if_neg h1] at HM
 obtain ⟨A,rfl⟩:∃A:Nat,across=(A:Int):=⟨across.toNat,by omega⟩
 rw [Int.toNat_natCast] at HM
 have hA1:1≤A:=by omega
 obtain ⟨m1,m2,m3,m4,m5,m6⟩:=Yg7 (n:=n) hA1
 have z0:((A:Int)==0)=false:=by simp;omega
 have e1:(n:Int)%(A:Int)=((n%A:Nat):Int):=rfl
 have e2:(n:Int) / (A:Int)=((n / A:Nat):Int):=rfl
 have hn':=hn
 unfold maxLen at hn'
 have wd:IntKind.i64.wrap ((n / A:Nat):Int)=((n / A:Nat):Int):=Ypr (by omega)
 have HU:=Lib.hid (show Ysz f n A first=if upV n A first then f (n-A) else Yl3 f n A from rfl)
 have HR:=Lib.hid (show Ys3 f n A first=if upV n A first then (if n%A<A-1 then f (n-A+1) else (0,0)) else Yl3 f n A from rfl)
 have hup:upV n A first=(decide (0<n / A)&&decide (first<((n / A:Nat):Int))):=rfl
 have CL:=Lib.hid (fun x (hx:Below w.heap.size w x)=> Ywh f p n cap A x (ha.mono hx) hn hA1)
 have CU:=fun x (hx:Below w.heap.size w x)=> Yvt f p n cap A x (ha.mono hx) hn hA1
 have CR:=fun x (hx:Below w.heap.size w x)=> Ywy f p n cap A x (ha.mono hx) hn hA1
 generalize Yl3 f n A=L at *
 generalize Ysz f n A first=U at *
 generalize Ys3 f n A first=R at *
 generalize upV n A first=up at *
 generalize f (n-A)=U' at *
 generalize (if n%A<A-1 then f (n-A+1) else (0,0))=R' at *
 generalize n%A=c at *
 generalize n / A=q at *
 obtain ⟨B,hB⟩:∃B,w.heap.size=B:=⟨_,rfl⟩
 obtain ⟨wA,hwA⟩:∃wA,w.alloc zerO=wA:=⟨_,rfl⟩
 have T1:wA.heap[B]? = some zerO:=by rw [←hwA,←hB];exact heap_alloc_new w _
 have T2:wA.heap.size=B+1:=by rw [←hwA,←hB];simp
 have T3:Below B w wA:=by rw [←hwA,←hB];exact (Below.refl _ w).alloc (Nat.le_refl _) _
 have HB:=Lib.hid hB
 have HW:=Lib.hid hwA
 rw [hB] at CL CU CR
 unfold zerO at HW
 have hc1:(c:Int)≤9223372036854775806:=by omega
 have hq1:(q:Int)≤9223372036854775807:=by omega
 clear ha hn hA h1 hB hwA m1 m2 m3 m4 m5 m6
 obtain ⟨l0,l1⟩:=L
 cases hu:up with
 | false=>
  rw [hu] at HU HR
  replace HU:=Lib.hid (show U=(l0,l1) from HU.out)
  replace HR:=Lib.hid (show R=(l0,l1) from HR.out)
  clear CU CR
  rw [hu] at hup
  have hg:decide (0<q)=false∨(decide (0<q)=true∧decide (first<(q:Int))=false):=by
   cases h5:decide (0<q) with
   | false=> exact .inl rfl
   | true=> refine .inr ⟨rfl,?_⟩;rw [h5] at hup;simpa using hup.symm
  clear hup hu
  rcases hg with t1 | ⟨t1,t2⟩
  ·have hdo:=()
   go_enter Tryz.func42,Tryz.ntmps42
   go_wp2_with fail
   rw [HW.out,HB.out]
   go_wp2_with fail
   refine (CL.out wA T3).mono ?_
   rintro e w1 ⟨rfl,hb1⟩
   obtain ⟨N,hN⟩:∃N,w1.heap.size=N:=⟨_,rfl⟩
   have hz1:B+1≤N:=by have:=hb1.size;omega
   have K0:=(hb1.block B (by omega)).trans T1
   have KB:Below B w w1:=T3.trans (hb1.mono (by omega))
   clear hb1 T1 T2 T3
   unfold Ydb
   obtain ⟨wT,hwT⟩:∃wT,((w1.alloc (.cells (Ydb l0 l1) 51 (0,0))).alloc (.cells (Ydb l0 l1) 51 (0,0))).alloc (.cells (Ydb l0 l1) 51 (0,0))=wT:=⟨_,rfl⟩
   have gb:Below B w wT:=by rw [←hwT];exact ((KB.alloc (by omega) _).alloc (by simp;omega) _).alloc (by simp;omega) _
   have gB:wT.heap[B]? = some zerO:=by rw [←hwT];exact Yap (Yap (Yap K0))
   have g0:wT.heap[N]? = some (.cells (Ydb l0 l1) 51 (0,0)):=by rw [←hwT,←hN];exact Yap (Yap (heap_alloc_new w1 _))
   have g1:wT.heap[N+1]? = some (.cells (Ydb l0 l1) 51 (0,0)):=by rw [←hwT,←hN];exact Yap (by simpa using heap_alloc_new (w1.alloc _) _)
   have g2:wT.heap[N+1+1]? = some (.cells (Ydb l0 l1) 51 (0,0)):=by rw [←hwT,←hN];simpa using heap_alloc_new ((w1.alloc _).alloc _) _
   have gz:wT.heap.size=N+3:=by rw [←hwT,←hN];simp
   have HN:=Lib.hid hN
   have HWT:=Lib.hid hwT
   unfold Ydb at HWT
   clear hwT hN K0 KB HW CL
   unfold zerO at gB
   go_wp2_with fail
   rw [HWT.out,HN.out]
   have HX:=Lib.hid (fun (x:World) (hx:Below wT.heap.size wT x)=> (⟨Yd1 ((hx.block N (by omega)).trans g0),Yd1 ((hx.block (N+1) (by omega)).trans g1),Yd1 ((hx.block (N+1+1) (by omega)).trans g2)⟩:(x.cell? ⟨N,0,none⟩=some (.int .i64 l0)∧x.cell? ⟨N,1,none⟩=some (.int .i64 l1))∧(x.cell? ⟨N+1,0,none⟩=some (.int .i64 l0)∧x.cell? ⟨N+1,1,none⟩=some (.int .i64 l1))∧(x.cell? ⟨N+1+1,0,none⟩=some (.int .i64 l0)∧x.cell? ⟨N+1+1,1,none⟩=some (.int .i64 l1))))
   obtain ⟨m0,hm0⟩:∃m,Ycv l0 l0 l0=m:=⟨_,rfl⟩
   obtain ⟨m1,hm1⟩:∃m,Ycv l1 l1 l1=m:=⟨_,rfl⟩
   have C0:=Lib.hid (fun (x:World) (hx:Below wT.heap.size wT x)=> (Ycx l0 l0 l0 x).mono fun e y h=> (⟨h.1.trans (by rw [hm0]),h.2▸hx⟩:e = .returned (.int .i64 m0)∧Below wT.heap.size wT y))
   have C1:=Lib.hid (fun (x:World) (hx:Below wT.heap.size wT x)=> (Ycx l1 l1 l1 x).mono fun e y h=> (⟨h.1.trans (by rw [hm1]),h.2▸hx⟩:e = .returned (.int .i64 m1)∧Below wT.heap.size wT y))
   have HM2:=Lib.hid (show M=(m0,m1) by rw [HM.out,HU.out,HR.out,←hm0,←hm1])
   clear hm0 hm1 HM HU HR
   refine Yah (S:=fun x=> Below wT.heap.size wT x) 15 (by kernel_rfl) (by kernel_rfl) (Below.refl _ _).drew ?_
   simp only [List.take_succ_cons,List.take_zero,List.drop_succ_cons,List.drop_zero]
   refine Yaa (by kernel_rfl) (fun x _=> by go_simp;try with_reducible rfl) ?_;simp only [Act.put,List.setIfInBounds_toArray,List.set_cons_zero,List.set_cons_succ]
   refine Yae 3 _ ⟨(N),0,none⟩ (.int .i64 l0) (by kernel_rfl) rfl rfl (fun x hx=> by have c0:=(HX.out x hx).1.1;go_simp) ?_;simp only [Act.put,List.setIfInBounds_toArray,List.set_cons_zero,List.set_cons_succ]
   refine Yaa (by kernel_rfl) (fun x _=> by go_simp;try with_reducible rfl) ?_;simp only [Act.put,List.setIfInBounds_toArray,List.set_cons_zero,List.set_cons_succ]
   refine Yae 3 _ ⟨(N+1),0,none⟩ (.int .i64 l0) (by kernel_rfl) rfl rfl (fun x hx=> by have c0:=(HX.out x hx).2.1.1;go_simp) ?_;simp only [Act.put,List.setIfInBounds_toArray,List.set_cons_zero,List.set_cons_succ]
   refine Yaa (by kernel_rfl) (fun x _=> by go_simp;try with_reducible rfl) ?_;simp only [Act.put,List.setIfInBounds_toArray,List.set_cons_zero,List.set_cons_succ]
   refine Yae 3 _ ⟨(N+1+1),0,none⟩ (.int .i64 l0) (by kernel_rfl) rfl rfl (fun x hx=> by have c0:=(HX.out x hx).2.2.1;go_simp) ?_;simp only [Act.put,List.setIfInBounds_toArray,List.set_cons_zero,List.set_cons_succ]
   refine Yaf (by kernel_rfl) C0.out (fun _=> by kernel_rfl) ?_;simp only [Act.put,List.setIfInBounds_toArray,List.set_cons_zero,List.set_cons_succ]
   refine Yaa (by kernel_rfl) (fun x _=> by go_simp;try with_reducible rfl) ?_;simp only [Act.put,List.setIfInBounds_toArray,List.set_cons_zero,List.set_cons_succ]
   refine Yae 3 _ ⟨(N),1,none⟩ (.int .i64 l1) (by kernel_rfl) rfl rfl (fun x hx=> by have c0:=(HX.out x hx).1.2;go_simp) ?_;simp only [Act.put,List.setIfInBounds_toArray,List.set_cons_zero,List.set_cons_succ]
   refine Yaa (by kernel_rfl) (fun x _=> by go_simp;try with_reducible rfl) ?_;simp only [Act.put,List.setIfInBounds_toArray,List.set_cons_zero,List.set_cons_succ]
   refine Yae 3 _ ⟨(N+1),1,none⟩ (.int .i64 l1) (by kernel_rfl) rfl rfl (fun x hx=> by have c0:=(HX.out x hx).2.1.2;go_simp) ?_;simp only [Act.put,List.setIfInBounds_toArray,List.set_cons_zero,List.set_cons_succ]
   refine Yaa (by kernel_rfl) (fun x _=> by go_simp;try with_reducible rfl) ?_;simp only [Act.put,List.setIfInBounds_toArray,List.set_cons_zero,List.set_cons_succ]
   refine Yae 3 _ ⟨(N+1+1),1,none⟩ (.int .i64 l1) (by kernel_rfl) rfl rfl (fun x hx=> by have c0:=(HX.out x hx).2.2.2;go_simp) ?_;simp only [Act.put,List.setIfInBounds_toArray,List.set_cons_zero,List.set_cons_succ]
   refine Yaf (by kernel_rfl) C1.out (fun _=> by kernel_rfl) ?_;simp only [Act.put,List.setIfInBounds_toArray,List.set_cons_zero,List.set_cons_succ]
   refine Yaa (by kernel_rfl) (fun x _=> by go_simp;try with_reducible rfl) ?_;simp only [Act.put,List.setIfInBounds_toArray,List.set_cons_zero,List.set_cons_succ]
   refine Yas fun x hx=> ?_
   have k0:x.heap[B]? = some (.cells #[.int .i64 0,.int .i64 0] 51 (0,0)):=(hx.block B (by omega)).trans gB
   have g1:(Tryz.prog.info? 51).map (·.size)=some (#[.int .i64 m0,.int .i64 m1]:Array Value).size:=Yfs
   have g2:(#[.int .i64 0,.int .i64 0]:Array Value).size=(#[.int .i64 m0,.int .i64 m1]:Array Value).size:=rfl
   have g3:(#[.int .i64 m0,.int .i64 m1]:Array Value).all (·.oneCell')=true:=Yhz m0 m1
   go_wp2_with (with_reducible refine Yao rfl 51 _ _ rfl B #[.int .i64 m0,.int .i64 m1] #[.int .i64 0,.int .i64 0] rfl rfl 51 k0 g1 g2 g3 ?_;intro w3 hh3 hg3)
   refine bodyPost_ret (results_cell_row rfl _ _ B 51 _ (0,0) _ rfl hh3 Tryz.underlying51 rfl (by kernel_rfl)) rfl ?_
   exact ⟨by rw [HM2.out];rfl,by rw [HB.out];exact (gb.trans (hx.mono (by omega))).grown hg3 (by have:=hx.size;omega) (fun k hk=> by injection hk with hk;omega)⟩
  ·have hdo:=()
   go_enter Tryz.func42,Tryz.ntmps42
   go_wp2_with fail
   rw [HW.out,HB.out]
   go_wp2_with fail
   refine (CL.out wA T3).mono ?_
   rintro e w1 ⟨rfl,hb1⟩
   obtain ⟨N,hN⟩:∃N,w1.heap.size=N:=⟨_,rfl⟩
   have hz1:B+1≤N:=by have:=hb1.size;omega
   have K0:=(hb1.block B (by omega)).trans T1
   have KB:Below B w w1:=T3.trans (hb1.mono (by omega))
   clear hb1 T1 T2 T3
   unfold Ydb
   obtain ⟨wT,hwT⟩:∃wT,((w1.alloc (.cells (Ydb l0 l1) 51 (0,0))).alloc (.cells (Ydb l0 l1) 51 (0,0))).alloc (.cells (Ydb l0 l1) 51 (0,0))=wT:=⟨_,rfl⟩
   have gb:Below B w wT:=by rw [←hwT];exact ((KB.alloc (by omega) _).alloc (by simp;omega) _).alloc (by simp;omega) _
   have gB:wT.heap[B]? = some zerO:=by rw [←hwT];exact Yap (Yap (Yap K0))
   have g0:wT.heap[N]? = some (.cells (Ydb l0 l1) 51 (0,0)):=by rw [←hwT,←hN];exact Yap (Yap (heap_alloc_new w1 _))
   have g1:wT.heap[N+1]? = some (.cells (Ydb l0 l1) 51 (0,0)):=by rw [←hwT,←hN];exact Yap (by simpa using heap_alloc_new (w1.alloc _) _)
   have g2:wT.heap[N+1+1]? = some (.cells (Ydb l0 l1) 51 (0,0)):=by rw [←hwT,←hN];simpa using heap_alloc_new ((w1.alloc _).alloc _) _
   have gz:wT.heap.size=N+3:=by rw [←hwT,←hN];simp
   have HN:=Lib.hid hN
   have HWT:=Lib.hid hwT
   unfold Ydb at HWT
   clear hwT hN K0 KB HW CL
   unfold zerO at gB
   go_wp2_with fail
   rw [HWT.out,HN.out]
   have HX:=Lib.hid (fun (x:World) (hx:Below wT.heap.size wT x)=> (⟨Yd1 ((hx.block N (by omega)).trans g0),Yd1 ((hx.block (N+1) (by omega)).trans g1),Yd1 ((hx.block (N+1+1) (by omega)).trans g2)⟩:(x.cell? ⟨N,0,none⟩=some (.int .i64 l0)∧x.cell? ⟨N,1,none⟩=some (.int .i64 l1))∧(x.cell? ⟨N+1,0,none⟩=some (.int .i64 l0)∧x.cell? ⟨N+1,1,none⟩=some (.int .i64 l1))∧(x.cell? ⟨N+1+1,0,none⟩=some (.int .i64 l0)∧x.cell? ⟨N+1+1,1,none⟩=some (.int .i64 l1))))
   obtain ⟨m0,hm0⟩:∃m,Ycv l0 l0 l0=m:=⟨_,rfl⟩
   obtain ⟨m1,hm1⟩:∃m,Ycv l1 l1 l1=m:=⟨_,rfl⟩
   have C0:=Lib.hid (fun (x:World) (hx:Below wT.heap.size wT x)=> (Ycx l0 l0 l0 x).mono fun e y h=> (⟨h.1.trans (by rw [hm0]),h.2▸hx⟩:e = .returned (.int .i64 m0)∧Below wT.heap.size wT y))
   have C1:=Lib.hid (fun (x:World) (hx:Below wT.heap.size wT x)=> (Ycx l1 l1 l1 x).mono fun e y h=> (⟨h.1.trans (by rw [hm1]),h.2▸hx⟩:e = .returned (.int .i64 m1)∧Below wT.heap.size wT y))
   have HM2:=Lib.hid (show M=(m0,m1) by rw [HM.out,HU.out,HR.out,←hm0,←hm1])
   clear hm0 hm1 HM HU HR
   refine Yah (S:=fun x=> Below wT.heap.size wT x) 15 (by kernel_rfl) (by kernel_rfl) (Below.refl _ _).drew ?_
   simp only [List.take_succ_cons,List.take_zero,List.drop_succ_cons,List.drop_zero]
   refine Yaa (by kernel_rfl) (fun x _=> by go_simp;try with_reducible rfl) ?_;simp only [Act.put,List.setIfInBounds_toArray,List.set_cons_zero,List.set_cons_succ]
   refine Yae 3 _ ⟨(N),0,none⟩ (.int .i64 l0) (by kernel_rfl) rfl rfl (fun x hx=> by have c0:=(HX.out x hx).1.1;go_simp) ?_;simp only [Act.put,List.setIfInBounds_toArray,List.set_cons_zero,List.set_cons_succ]
   refine Yaa (by kernel_rfl) (fun x _=> by go_simp;try with_reducible rfl) ?_;simp only [Act.put,List.setIfInBounds_toArray,List.set_cons_zero,List.set_cons_succ]
   refine Yae 3 _ ⟨(N+1),0,none⟩ (.int .i64 l0) (by kernel_rfl) rfl rfl (fun x hx=> by have c0:=(HX.out x hx).2.1.1;go_simp) ?_;simp only [Act.put,List.setIfInBounds_toArray,List.set_cons_zero,List.set_cons_succ]
   refine Yaa (by kernel_rfl) (fun x _=> by go_simp;try with_reducible rfl) ?_;simp only [Act.put,List.setIfInBounds_toArray,List.set_cons_zero,List.set_cons_succ]
   refine Yae 3 _ ⟨(N+1+1),0,none⟩ (.int .i64 l0) (by kernel_rfl) rfl rfl (fun x hx=> by have c0:=(HX.out x hx).2.2.1;go_simp) ?_;simp only [Act.put,List.setIfInBounds_toArray,List.set_cons_zero,List.set_cons_succ]
   refine Yaf (by kernel_rfl) C0.out (fun _=> by kernel_rfl) ?_;simp only [Act.put,List.setIfInBounds_toArray,List.set_cons_zero,List.set_cons_succ]
   refine Yaa (by kernel_rfl) (fun x _=> by go_simp;try with_reducible rfl) ?_;simp only [Act.put,List.setIfInBounds_toArray,List.set_cons_zero,List.set_cons_succ]
   refine Yae 3 _ ⟨(N),1,none⟩ (.int .i64 l1) (by kernel_rfl) rfl rfl (fun x hx=> by have c0:=(HX.out x hx).1.2;go_simp) ?_;simp only [Act.put,List.setIfInBounds_toArray,List.set_cons_zero,List.set_cons_succ]
   refine Yaa (by kernel_rfl) (fun x _=> by go_simp;try with_reducible rfl) ?_;simp only [Act.put,List.setIfInBounds_toArray,List.set_cons_zero,List.set_cons_succ]
   refine Yae 3 _ ⟨(N+1),1,none⟩ (.int .i64 l1) (by kernel_rfl) rfl rfl (fun x hx=> by have c0:=(HX.out x hx).2.1.2;go_simp) ?_;simp only [Act.put,List.setIfInBounds_toArray,List.set_cons_zero,List.set_cons_succ]
   refine Yaa (by kernel_rfl) (fun x _=> by go_simp;try with_reducible rfl) ?_;simp only [Act.put,List.setIfInBounds_toArray,List.set_cons_zero,List.set_cons_succ]
   refine Yae 3 _ ⟨(N+1+1),1,none⟩ (.int .i64 l1) (by kernel_rfl) rfl rfl (fun x hx=> by have c0:=(HX.out x hx).2.2.2;go_simp) ?_;simp only [Act.put,List.setIfInBounds_toArray,List.set_cons_zero,List.set_cons_succ]
   refine Yaf (by kernel_rfl) C1.out (fun _=> by kernel_rfl) ?_;simp only [Act.put,List.setIfInBounds_toArray,List.set_cons_zero,List.set_cons_succ]
   refine Yaa (by kernel_rfl) (fun x _=> by go_simp;try with_reducible rfl) ?_;simp only [Act.put,List.setIfInBounds_toArray,List.set_cons_zero,List.set_cons_succ]
   refine Yas fun x hx=> ?_
   have k0:x.heap[B]? = some (.cells #[.int .i64 0,.int .i64 0] 51 (0,0)):=(hx.block B (by omega)).trans gB
   have g1:(Tryz.prog.info? 51).map (·.size)=some (#[.int .i64 m0,.int .i64 m1]:Array Value).size:=Yfs
   have g2:(#[.int .i64 0,.int .i64 0]:Array Value).size=(#[.int .i64 m0,.int .i64 m1]:Array Value).size:=rfl
   have g3:(#[.int .i64 m0,.int .i64 m1]:Array Value).all (·.oneCell')=true:=Yhz m0 m1
   go_wp2_with (with_reducible refine Yao rfl 51 _ _ rfl B #[.int .i64 m0,.int .i64 m1] #[.int .i64 0,.int .i64 0] rfl rfl 51 k0 g1 g2 g3 ?_;intro w3 hh3 hg3)
   refine bodyPost_ret (results_cell_row rfl _ _ B 51 _ (0,0) _ rfl hh3 Tryz.underlying51 rfl (by kernel_rfl)) rfl ?_
   exact ⟨by rw [HM2.out];rfl,by rw [HB.out];exact (gb.trans (hx.mono (by omega))).grown hg3 (by have:=hx.size;omega) (fun k hk=> by injection hk with hk;omega)⟩
 | true=>
  rw [hu] at HU HR
  replace HU:=Lib.hid (show U=U' from HU.out)
  replace HR:=Lib.hid (show R=R' from HR.out)
  rw [hu] at hup
  have hg:decide (0<q)=true∧decide (first<(q:Int))=true:=by simpa using hup.symm
  obtain ⟨t1,t2⟩:=hg
  have CU:=Lib.hid (fun x (hx:Below B w x)=> CU x hx (by simpa using t1))
  have CR:=Lib.hid (fun x (hx:Below B w x)=> CR x hx (by simpa using t1))
  clear hup hu
  obtain ⟨u0,u1⟩:=U'
  obtain ⟨r0,r1⟩:=R'
  go_enter Tryz.func42,Tryz.ntmps42
  go_wp2_with fail
  rw [HW.out,HB.out]
  go_wp2_with fail
  refine (CL.out wA T3).mono ?_
  rintro e w1 ⟨rfl,hb1⟩
  obtain ⟨N,hN⟩:∃N,w1.heap.size=N:=⟨_,rfl⟩
  have hz1:B+1≤N:=by have:=hb1.size;omega
  have K0:=(hb1.block B (by omega)).trans T1
  have KB:Below B w w1:=T3.trans (hb1.mono (by omega))
  clear hb1 T1 T2 T3
  unfold Ydb
  obtain ⟨wT,hwT⟩:∃wT,((w1.alloc (.cells (Ydb l0 l1) 51 (0,0))).alloc (.cells (Ydb l0 l1) 51 (0,0))).alloc (.cells (Ydb l0 l1) 51 (0,0))=wT:=⟨_,rfl⟩
  have gb:Below B w wT:=by rw [←hwT];exact ((KB.alloc (by omega) _).alloc (by simp;omega) _).alloc (by simp;omega) _
  have gB:wT.heap[B]? = some zerO:=by rw [←hwT];exact Yap (Yap (Yap K0))
  have g0:wT.heap[N]? = some (.cells (Ydb l0 l1) 51 (0,0)):=by rw [←hwT,←hN];exact Yap (Yap (heap_alloc_new w1 _))
  have g1:wT.heap[N+1]? = some (.cells (Ydb l0 l1) 51 (0,0)):=by rw [←hwT,←hN];exact Yap (by simpa using heap_alloc_new (w1.alloc _) _)
  have g2:wT.heap[N+1+1]? = some (.cells (Ydb l0 l1) 51 (0,0)):=by rw [←hwT,←hN];simpa using heap_alloc_new ((w1.alloc _).alloc _) _
  have gz:wT.heap.size=N+3:=by rw [←hwT,←hN];simp
  have HN:=Lib.hid hN
  have HWT:=Lib.hid hwT
  unfold Ydb at HWT
  clear hwT hN K0 KB HW CL
  unfold zerO at gB
  go_wp2_with fail
  rw [HWT.out,HN.out]
  refine (CU.out wT gb).mono ?_
  rintro e wUa ⟨rfl,hb2⟩
  have hz2:=hb2.size
  have hk2:=hb2.block
  replace gb:Below B w wUa:=gb.trans (hb2.mono (by omega))
  replace gB:=(hk2 B (by omega)).trans gB
  replace g0:=(hk2 N (by omega)).trans g0
  replace g1:=(hk2 (N+1) (by omega)).trans g1
  replace g2:=(hk2 (N+1+1) (by omega)).trans g2
  replace gz:N+3≤wUa.heap.size:=by omega
  clear hb2 hk2 hz2
  unfold Ydb at g1
  unfold Ydb
  have s1:(Tryz.prog.info? 51).map (·.size)=some (#[.int .i64 u0,.int .i64 u1]:Array Value).size:=Yfs
  have s2:(#[.int .i64 l0,.int .i64 l1]:Array Value).size=(#[.int .i64 u0,.int .i64 u1]:Array Value).size:=rfl
  have s3:(#[.int .i64 u0,.int .i64 u1]:Array Value).all (·.oneCell')=true:=Yhz u0 u1
  go_wp2_with (with_reducible refine Yao rfl 51 _ _ rfl (N+1) #[.int .i64 u0,.int .i64 u1] #[.int .i64 l0,.int .i64 l1] rfl rfl 51 g1 s1 s2 s3 ?_;intro wU hh3 hg3)
  replace gb:=gb.grown hg3 (by omega) (fun k hk=> by injection hk with hk;omega)
  have hk3:=hg3.block
  have hz3:=hg3.size
  replace gB:=(hk3 B (by omega) (by intro hk;injection hk with hk;omega)).trans gB
  replace g0:=(hk3 N (by omega) (by intro hk;injection hk with hk;omega)).trans g0
  replace g2:=(hk3 (N+1+1) (by omega) (by intro hk;injection hk with hk;omega)).trans g2
  replace g1:wU.heap[N+1]? = some (.cells (Ydb u0 u1) 51 (0,0)):=hh3
  replace gz:N+3≤wU.heap.size:=by omega
  clear hh3 hg3 hk3 hz3 s1 s2 s3
  refine (CR.out wU gb).mono ?_
  rintro e wRa ⟨rfl,hb2⟩
  have hz2:=hb2.size
  have hk2:=hb2.block
  replace gb:Below B w wRa:=gb.trans (hb2.mono (by omega))
  replace gB:=(hk2 B (by omega)).trans gB
  replace g0:=(hk2 N (by omega)).trans g0
  replace g1:=(hk2 (N+1) (by omega)).trans g1
  replace g2:=(hk2 (N+1+1) (by omega)).trans g2
  replace gz:N+3≤wRa.heap.size:=by omega
  clear hb2 hk2 hz2
  unfold Ydb at g2
  unfold Ydb
  have s1:(Tryz.prog.info? 51).map (·.size)=some (#[.int .i64 r0,.int .i64 r1]:Array Value).size:=Yfs
  have s2:(#[.int .i64 l0,.int .i64 l1]:Array Value).size=(#[.int .i64 r0,.int .i64 r1]:Array Value).size:=rfl
  have s3:(#[.int .i64 r0,.int .i64 r1]:Array Value).all (·.oneCell')=true:=Yhz r0 r1
  go_wp2_with (with_reducible refine Yao rfl 51 _ _ rfl (N+1+1) #[.int .i64 r0,.int .i64 r1] #[.int .i64 l0,.int .i64 l1] rfl rfl 51 g2 s1 s2 s3 ?_;intro wR hh3 hg3)
  replace gb:=gb.grown hg3 (by omega) (fun k hk=> by injection hk with hk;omega)
  have hk3:=hg3.block
  have hz3:=hg3.size
  replace gB:=(hk3 B (by omega) (by intro hk;injection hk with hk;omega)).trans gB
  replace g0:=(hk3 N (by omega) (by intro hk;injection hk with hk;omega)).trans g0
  replace g1:=(hk3 (N+1) (by omega) (by intro hk;injection hk with hk;omega)).trans g1
  replace g2:wR.heap[N+1+1]? = some (.cells (Ydb r0 r1) 51 (0,0)):=hh3
  replace gz:N+3≤wR.heap.size:=by omega
  clear hh3 hg3 hk3 hz3 s1 s2 s3
  have HX:=Lib.hid (fun (x:World) (hx:Below wR.heap.size wR x)=> (⟨Yd1 ((hx.block N (by omega)).trans g0),Yd1 ((hx.block (N+1) (by omega)).trans g1),Yd1 ((hx.block (N+1+1) (by omega)).trans g2)⟩:(x.cell? ⟨N,0,none⟩=some (.int .i64 l0)∧x.cell? ⟨N,1,none⟩=some (.int .i64 l1))∧(x.cell? ⟨N+1,0,none⟩=some (.int .i64 u0)∧x.cell? ⟨N+1,1,none⟩=some (.int .i64 u1))∧(x.cell? ⟨N+1+1,0,none⟩=some (.int .i64 r0)∧x.cell? ⟨N+1+1,1,none⟩=some (.int .i64 r1))))
  obtain ⟨m0,hm0⟩:∃m,Ycv l0 u0 r0=m:=⟨_,rfl⟩
  obtain ⟨m1,hm1⟩:∃m,Ycv l1 u1 r1=m:=⟨_,rfl⟩
  have C0:=Lib.hid (fun (x:World) (hx:Below wR.heap.size wR x)=> (Ycx l0 u0 r0 x).mono fun e y h=> (⟨h.1.trans (by rw [hm0]),h.2▸hx⟩:e = .returned (.int .i64 m0)∧Below wR.heap.size wR y))
  have C1:=Lib.hid (fun (x:World) (hx:Below wR.heap.size wR x)=> (Ycx l1 u1 r1 x).mono fun e y h=> (⟨h.1.trans (by rw [hm1]),h.2▸hx⟩:e = .returned (.int .i64 m1)∧Below wR.heap.size wR y))
  have HM2:=Lib.hid (show M=(m0,m1) by rw [HM.out,HU.out,HR.out,←hm0,←hm1])
  clear hm0 hm1 HM HU HR
  refine Yah (S:=fun x=> Below wR.heap.size wR x) 15 (by kernel_rfl) (by kernel_rfl) (Below.refl _ _).drew ?_
  simp only [List.take_succ_cons,List.take_zero,List.drop_succ_cons,List.drop_zero]
  refine Yaa (by kernel_rfl) (fun x _=> by go_simp;try with_reducible rfl) ?_;simp only [Act.put,List.setIfInBounds_toArray,List.set_cons_zero,List.set_cons_succ]
  refine Yae 3 _ ⟨(N),0,none⟩ (.int .i64 l0) (by kernel_rfl) rfl rfl (fun x hx=> by have c0:=(HX.out x hx).1.1;go_simp) ?_;simp only [Act.put,List.setIfInBounds_toArray,List.set_cons_zero,List.set_cons_succ]
  refine Yaa (by kernel_rfl) (fun x _=> by go_simp;try with_reducible rfl) ?_;simp only [Act.put,List.setIfInBounds_toArray,List.set_cons_zero,List.set_cons_succ]
  refine Yae 3 _ ⟨(N+1),0,none⟩ (.int .i64 u0) (by kernel_rfl) rfl rfl (fun x hx=> by have c0:=(HX.out x hx).2.1.1;go_simp) ?_;simp only [Act.put,List.setIfInBounds_toArray,List.set_cons_zero,List.set_cons_succ]
  refine Yaa (by kernel_rfl) (fun x _=> by go_simp;try with_reducible rfl) ?_;simp only [Act.put,List.setIfInBounds_toArray,List.set_cons_zero,List.set_cons_succ]
  refine Yae 3 _ ⟨(N+1+1),0,none⟩ (.int .i64 r0) (by kernel_rfl) rfl rfl (fun x hx=> by have c0:=(HX.out x hx).2.2.1;go_simp) ?_;simp only [Act.put,List.setIfInBounds_toArray,List.set_cons_zero,List.set_cons_succ]
  refine Yaf (by kernel_rfl) C0.out (fun _=> by kernel_rfl) ?_;simp only [Act.put,List.setIfInBounds_toArray,List.set_cons_zero,List.set_cons_succ]
  refine Yaa (by kernel_rfl) (fun x _=> by go_simp;try with_reducible rfl) ?_;simp only [Act.put,List.setIfInBounds_toArray,List.set_cons_zero,List.set_cons_succ]
  refine Yae 3 _ ⟨(N),1,none⟩ (.int .i64 l1) (by kernel_rfl) rfl rfl (fun x hx=> by have c0:=(HX.out x hx).1.2;go_simp) ?_;simp only [Act.put,List.setIfInBounds_toArray,List.set_cons_zero,List.set_cons_succ]
  refine Yaa (by kernel_rfl) (fun x _=> by go_simp;try with_reducible rfl) ?_;simp only [Act.put,List.setIfInBounds_toArray,List.set_cons_zero,List.set_cons_succ]
  refine Yae 3 _ ⟨(N+1),1,none⟩ (.int .i64 u1) (by kernel_rfl) rfl rfl (fun x hx=> by have c0:=(HX.out x hx).2.1.2;go_simp) ?_;simp only [Act.put,List.setIfInBounds_toArray,List.set_cons_zero,List.set_cons_succ]
  refine Yaa (by kernel_rfl) (fun x _=> by go_simp;try with_reducible rfl) ?_;simp only [Act.put,List.setIfInBounds_toArray,List.set_cons_zero,List.set_cons_succ]
  refine Yae 3 _ ⟨(N+1+1),1,none⟩ (.int .i64 r1) (by kernel_rfl) rfl rfl (fun x hx=> by have c0:=(HX.out x hx).2.2.2;go_simp) ?_;simp only [Act.put,List.setIfInBounds_toArray,List.set_cons_zero,List.set_cons_succ]
  refine Yaf (by kernel_rfl) C1.out (fun _=> by kernel_rfl) ?_;simp only [Act.put,List.setIfInBounds_toArray,List.set_cons_zero,List.set_cons_succ]
  refine Yaa (by kernel_rfl) (fun x _=> by go_simp;try with_reducible rfl) ?_;simp only [Act.put,List.setIfInBounds_toArray,List.set_cons_zero,List.set_cons_succ]
  refine Yas fun x hx=> ?_
  have k0:x.heap[B]? = some (.cells #[.int .i64 0,.int .i64 0] 51 (0,0)):=(hx.block B (by omega)).trans gB
  have g1:(Tryz.prog.info? 51).map (·.size)=some (#[.int .i64 m0,.int .i64 m1]:Array Value).size:=Yfs
  have g2:(#[.int .i64 0,.int .i64 0]:Array Value).size=(#[.int .i64 m0,.int .i64 m1]:Array Value).size:=rfl
  have g3:(#[.int .i64 m0,.int .i64 m1]:Array Value).all (·.oneCell')=true:=Yhz m0 m1
  go_wp2_with (with_reducible refine Yao rfl 51 _ _ rfl B #[.int .i64 m0,.int .i64 m1] #[.int .i64 0,.int .i64 0] rfl rfl 51 k0 g1 g2 g3 ?_;intro w3 hh3 hg3)
  refine bodyPost_ret (results_cell_row rfl _ _ B 51 _ (0,0) _ rfl hh3 Tryz.underlying51 rfl (by kernel_rfl)) rfl ?_
  exact ⟨by rw [HM2.out];rfl,by rw [HB.out];exact (gb.trans (hx.mono (by omega))).grown hg3 (by have:=hx.size;omega) (fun k hk=> by injection hk with hk;omega)⟩
def Yt1 (s h:Int):Bool:=decide (0≤s)&&decide ((s+30) / 2+(s+30)%2<h)
theorem Ynn {c m:Nat} {v:Int} (h1:-32≤v) (h2:v≤31):Ycb c m v=Yt1 (32*(c:Int)+v) (16*(m:Int)):=by
 unfold Ycb Yt1
 rw [decide_eq_true (show -32≤v∧v≤31 from ⟨h1,h2⟩),Bool.true_and,←Bool.decide_and]
 by_cases h:0≤32*(c:Int)+v∧32*(c:Int)+v+30≤32*(m:Int)-2
 ·rw [decide_eq_true h,decide_eq_true];omega
 ·rw [decide_eq_false h,decide_eq_false];omega
theorem Yp6 (s h:Int) (w:World) (h1:-100≤s) (h2:s≤100000):Calls Tryz.prog 62 #[.int .i64 s,.int .i64 h] w fun e w'=> e = .returned (.bool (Yt1 s h))∧w=w':=by
 have hq:=Lib.hid (show Yt1 s h=(decide (0≤s)&&decide ((s+30) / 2+(s+30)%2<h)) from rfl)
 generalize Yt1 s h=y at *
 by_cases h0:0≤s
 ·have t0:decide (0≤s)=true:=decide_eq_true h0
  rw [t0] at hq
  have e1:(s+30).tdiv 2=(s+30) / 2:=Int.tdiv_eq_ediv_of_nonneg (by omega)
  have e2:(s+30).tmod 2=(s+30)%2:=Int.tmod_eq_emod_of_nonneg (by omega)
  have e3:IntKind.i64.wrap ((s+30) / 2)=(s+30) / 2:=Yc8 (by omega)
  have m1:0≤(s+30) / 2∧(s+30) / 2≤100000:=by omega
  have m2:0≤(s+30)%2∧(s+30)%2≤1:=by omega
  generalize (s+30) / 2=u at *
  generalize (s+30)%2=v at *
  clear h0
  go_enter Tryz.func62,Tryz.ntmps62
  go_wp2
  go_ret
  exact ⟨Yad (by rw [hq.out];rfl),rfl⟩
 ·have t0:decide (0≤s)=false:=decide_eq_false h0
  rw [t0] at hq
  clear h0
  go_enter Tryz.func62,Tryz.ntmps62
  go_wp2
  go_ret
  exact ⟨Yad (by rw [hq.out];rfl),rfl⟩
set_option maxRecDepth 100000 in
set_option maxHeartbeats 4000000 in
theorem Ywl (k n a b:Int) (w:World):Calls Tryz.prog 38 #[.int .i64 k,.int .i64 n,.agg (Ydb a b)] w fun e w'=> e = .returned (.bool (Yp7 k n a b))∧Below w.heap.size w w':=by
 have hq:=Lib.hid (show Yp7 k n a b=(Yvr k n&&(Ycb (n.toNat%acr k) (acr k) a&&Ycb (n.toNat / acr k) (dow k) b)) from rfl)
 generalize Yp7 k n a b=y at *
 obtain ⟨B,hB⟩:∃B,w.heap.size=B:=⟨_,rfl⟩
 obtain ⟨wA,hwA⟩:∃wA,w.alloc (.cells (Ydb a b) 51 (0,0))=wA:=⟨_,rfl⟩
 have hA:wA.heap[B]? = some (.cells (Ydb a b) 51 (0,0)):=by rw [←hwA,←hB];exact heap_alloc_new w _
 have hz:wA.heap.size=B+1:=by rw [←hwA,←hB];simp
 have K:∀(x y:World),Below (B+1) wA x→Below x.heap.size x y→Below (B+1) wA y:=fun x y hx hy=> hx.trans (hy.mono (by have:=hx.size;omega))
 have HC:=Lib.hid (fun (x:World) (hx:Below (B+1) wA x)=> Yd1 ((hx.block B (by omega)).trans hA))
 have hb:Below w.heap.size w wA:=by rw [←hwA];exact (Below.refl _ w).alloc (Nat.le_refl _) _
 have HE:=Lib.hid (fun (x:World) (hx:Below (B+1) wA x)=> (hb.trans (hx.mono (by omega)):Below w.heap.size w x))
 have C1:=Lib.hid (fun (x:World) (hx:Below (B+1) wA x)=> ((Ym6 k x).mono fun e y h=> ⟨h.1,K x y hx h.2⟩:Calls Tryz.prog 60 #[.int .i64 k] x fun e y=> e = .returned (.int .i64 (Yct k:Int))∧Below (B+1) wA y))
 have C2:=Lib.hid (fun (x:World) (hx:Below (B+1) wA x)=> ((Ygb k x).mono fun e y h=> ⟨h.1,K x y hx h.2⟩:Calls Tryz.prog 43 #[.int .i64 k] x fun e y=> e = .returned (.int .i64 (acr k:Int))∧Below (B+1) wA y))
 have C3:=Lib.hid (fun (x:World) (hx:Below (B+1) wA x)=> ((Ydj k x).mono fun e y h=> ⟨h.1,K x y hx h.2⟩:Calls Tryz.prog 34 #[.int .i64 k] x fun e y=> e = .returned (.agg (Ys2 k))∧Below (B+1) wA y))
 unfold Ydb at *
 have HWA:=Lib.hid hwA
 have HB:=Lib.hid hB
 have hS0:Below (B+1) wA wA:=Below.refl _ _
 clear hA hz hb hwA hB K
 cases hc:Yvr k n with
 | false=>
  rw [hc] at hq
  by_cases h0:n<0
  ·have t0:decide (n<0)=true:=decide_eq_true h0
   clear hc h0
   go_enter Tryz.func38,Tryz.ntmps38
   go_wp2
   rw [HWA.out]
   go_ret
   exact ⟨Yad (by rw [hq.out];rfl),HE.out _ hS0⟩
  ·have t0:decide (n<0)=false:=decide_eq_false h0
   have t1:decide ((Yct k:Int)≤n)=true:=decide_eq_true (by
    have:¬ (0≤n∧n.toNat<Yct k):=fun h=> by rw [Yl0.2 h] at hc;cases hc
    omega)
   generalize Yct k=M at *
   clear hc h0
   go_enter Tryz.func38,Tryz.ntmps38
   go_wp2_with fail
   rw [HWA.out]
   refine (C1.out _ hS0).mono ?_
   rintro e x ⟨rfl,hx⟩
   go_wp2
   go_ret
   exact ⟨Yad (by rw [hq.out];rfl),HE.out _ hx⟩
 | true=>
  rw [hc] at hq
  obtain ⟨q0,q1⟩:=Yl0.1 hc
  obtain ⟨q,rfl⟩:∃q:Nat,n=(q:Int):=⟨n.toNat,by omega⟩
  rw [Int.toNat_natCast] at hq q1
  obtain ⟨r1,r2,r3,z0,m1,m2,m3,m4⟩:=Ypz q1
  have t0:decide ((q:Int)<0)=false:=decide_eq_false (by omega)
  have t1:decide (Yct k≤q)=false:=decide_eq_false (by omega)
  clear hc q1 q0
  generalize q%acr k=u at *
  generalize q / acr k=v at *
  have C4:=Lib.hid (fun (x:World) (hx:Below (B+1) wA x) (h1:-32≤a) (h2:a≤31)=> (Yp6 (32*(u:Int)+a) (Yf4 k) x (by omega) (by omega)).mono fun e y h=> (⟨h.1,h.2▸hx⟩:e = .returned (.bool (Yt1 (32*(u:Int)+a) (Yf4 k)))∧Below (B+1) wA y))
  have C5:=Lib.hid (fun (x:World) (hx:Below (B+1) wA x) (h1:-32≤b) (h2:b≤31)=> (Yp6 (32*(v:Int)+b) (Ygi k) x (by omega) (by omega)).mono fun e y h=> (⟨h.1,h.2▸hx⟩:e = .returned (.bool (Yt1 (32*(v:Int)+b) (Ygi k)))∧Below (B+1) wA y))
  have I1:=Lib.hid (fun (h1:-32≤a) (h2:a≤31)=> (by rw [(Ycm k).2.2.1];exact Ynn h1 h2:Ycb u (acr k) a=Yt1 (32*(u:Int)+a) (Yf4 k)))
  have I2:=Lib.hid (fun (h1:-32≤b) (h2:b≤31)=> (by rw [(Ycm k).2.2.2.1];exact Ynn h1 h2:Ycb v (dow k) b=Yt1 (32*(v:Int)+b) (Ygi k)))
  have N1:=Lib.hid (fun (h:¬ (-32≤a∧a≤31))=> (by unfold Ycb;rw [decide_eq_false h];rfl:Ycb u (acr k) a=false))
  have N2:=Lib.hid (fun (h:¬ (-32≤b∧b≤31))=> (by unfold Ycb;rw [decide_eq_false h];rfl:Ycb v (dow k) b=false))
  have ix0:=fun w=> (Ydi (Yf4 k) (Ygi k) (Yf3 k) (Yfm k) w).1
  have ix1:=fun w=> (Ydi (Yf4 k) (Ygi k) (Yf3 k) (Yfm k) w).2
  unfold Ys2 at C3
  generalize Ycb u (acr k) a=RA at *
  generalize Ycb v (dow k) b=RB at *
  generalize Yct k=M at *
  generalize acr k=A at *
  generalize dow k=D at *
  generalize Yf4 k=W at *
  generalize Ygi k=H at *
  generalize Yf3 k=R at *
  generalize Yfm k=L at *
  go_enter Tryz.func38,Tryz.ntmps38
  go_wp2_with fail
  rw [HWA.out,HB.out]
  refine (C1.out _ hS0).mono ?_
  rintro e x ⟨rfl,hx⟩
  go_wp2_with fail
  refine (C2.out _ hx).mono ?_
  rintro e x2 ⟨rfl,hx2⟩
  go_wp2_with fail
  refine (C2.out _ hx2).mono ?_
  rintro e x3 ⟨rfl,hx3⟩
  clear hx hx2
  go_wp2
  go_loopw [9] (fun z wr=>∃i:Nat,i≤2∧z = .int .i64 i∧Below (B+1) wA wr∧(0<i→-32≤a∧a≤31)∧(1<i→-32≤b∧b≤31)) (fun z _=> 2-(RowKit.intOf z).toNat)
  case atStart=> exact ⟨0,by omega,rfl,hx3,by omega,by omega⟩
  case round=>
   clear hx3
   obtain ⟨i,hi2,rfl,hx,ha,hb⟩:=hrel
   have hi3:i=0∨i=1∨i=2:=by omega
   obtain ⟨l0,l1⟩:=HC.out _ hx
   rcases hi3 with rfl | rfl | rfl
   case _=>
    by_cases h1:a < -32
    ·have t2:decide (a < -32)=true:=decide_eq_true h1
     have e1:=N1.out (by omega)
     clear h1 ha hb
     go_wp2
     go_ret
     exact ⟨Yad (by rw [hq.out,e1];rfl),HE.out _ hx⟩
    have t2:decide (a < -32)=false:=decide_eq_false h1
    by_cases h2:31<a
    ·have t3:decide (31<a)=true:=decide_eq_true h2
     have e1:=N1.out (by omega)
     clear h1 h2 ha hb
     go_wp2
     go_ret
     exact ⟨Yad (by rw [hq.out,e1];rfl),HE.out _ hx⟩
    have t3:decide (31<a)=false:=decide_eq_false h2
    have hr:-32≤a∧a≤31:=by omega
    clear h1 h2 ha hb
    go_wp2
    go_roundw
    case rel=> exact ⟨1,by omega,by go_num,hx,fun _=> hr,by omega⟩
    case measure=> simp [RowKit.intOf]
   case _=>
    replace ha:=ha (by omega)
    by_cases h1:b < -32
    ·have t2:decide (b < -32)=true:=decide_eq_true h1
     have e1:=N2.out (by omega)
     clear h1 hb
     go_wp2
     go_ret
     exact ⟨Yad (by rw [hq.out,e1];cases RA <;> rfl),HE.out _ hx⟩
    have t2:decide (b < -32)=false:=decide_eq_false h1
    by_cases h2:31<b
    ·have t3:decide (31<b)=true:=decide_eq_true h2
     have e1:=N2.out (by omega)
     clear h1 h2 hb
     go_wp2
     go_ret
     exact ⟨Yad (by rw [hq.out,e1];cases RA <;> rfl),HE.out _ hx⟩
    have t3:decide (31<b)=false:=decide_eq_false h2
    have hr:-32≤b∧b≤31:=by omega
    clear h1 h2 hb
    go_wp2
    go_roundw
    case rel=> exact ⟨2,by omega,by go_num,hx,fun _=> ha,fun _=> hr⟩
    case measure=> simp [RowKit.intOf]
   case _=>
    obtain ⟨a1,a2⟩:=ha (by omega)
    obtain ⟨b1,b2⟩:=hb (by omega)
    have e1:=I1.out a1 a2
    have e2:=I2.out b1 b2
    rw [e1,e2] at hq
    replace C4:=Lib.hid (fun (x:World) (hx:Below (B+1) wA x)=> C4.out x hx a1 a2)
    replace C5:=Lib.hid (fun (x:World) (hx:Below (B+1) wA x)=> C5.out x hx b1 b2)
    clear ha hb e1 e2 I1 I2 N1 N2 l0 l1
    have w1:IntKind.i64.wrap (32*(u:Int))=32*(u:Int):=Yc8 (by omega)
    have w2:IntKind.i64.wrap (32*(u:Int)+a)=32*(u:Int)+a:=Yc8 (by omega)
    have w3:IntKind.i64.wrap (32*(v:Int))=32*(v:Int):=Yc8 (by omega)
    have w4:IntKind.i64.wrap (32*(v:Int)+b)=32*(v:Int)+b:=Yc8 (by omega)
    cases hi:Yt1 (32*(u:Int)+a) W with
    | false=>
     rw [hi] at C4 hq
     go_wp2
     refine Yah (S:=fun x=> Below (B+1) wA x) 21 (by kernel_rfl) (by kernel_rfl) hx.drew ?_
     simp only [List.take_succ_cons,List.take_zero,List.drop_succ_cons,List.drop_zero]
     refine Yaa (v:=?vp0) (by kernel_rfl) ?m ?_;(case m=> (intro x _;go_simp;try with_reducible rfl))
     simp only [Act.put,List.setIfInBounds_toArray,List.set_cons_zero,List.set_cons_succ]
     refine Yaa (v:=?vp1) (by kernel_rfl) ?m ?_;(case m=> (intro x _;go_simp;try with_reducible rfl))
     simp only [Act.put,List.setIfInBounds_toArray,List.set_cons_zero,List.set_cons_succ]
     refine Yaa (v:=?vp2) (by kernel_rfl) ?m ?_;(case m=> (intro x _;go_simp;try with_reducible rfl))
     simp only [Act.put,List.setIfInBounds_toArray,List.set_cons_zero,List.set_cons_succ]
     refine Yae 3 _ ⟨B,0,none⟩ (.int .i64 a) (by kernel_rfl) rfl rfl (fun x hx=> by have c0:=(HC.out x hx).1;go_simp) ?_
     simp only [Act.put,List.setIfInBounds_toArray,List.set_cons_zero,List.set_cons_succ]
     refine Yaa (v:=?vp4) (by kernel_rfl) ?m ?_;(case m=> (intro x _;go_simp;try with_reducible rfl))
     simp only [Act.put,List.setIfInBounds_toArray,List.set_cons_zero,List.set_cons_succ]
     refine Yaa (v:=?vp5) (by kernel_rfl) ?m ?_;(case m=> (intro x _;go_simp;try with_reducible rfl))
     simp only [Act.put,List.setIfInBounds_toArray,List.set_cons_zero,List.set_cons_succ]
     refine Yaf (by kernel_rfl) C3.out (fun _=> by kernel_rfl) ?_
     simp only [Act.put,List.setIfInBounds_toArray,List.set_cons_zero,List.set_cons_succ]
     refine Yaa (v:=?vp7) (by kernel_rfl) ?m ?_;(case m=> (intro x _;go_simp;try with_reducible rfl))
     simp only [Act.put,List.setIfInBounds_toArray,List.set_cons_zero,List.set_cons_succ]
     refine Yaf (by kernel_rfl) C4.out (fun _=> by kernel_rfl) ?_
     simp only [Act.put,List.setIfInBounds_toArray,List.set_cons_zero,List.set_cons_succ]
     refine Yaa (v:=?vp9) (by kernel_rfl) ?m ?_;(case m=> (intro x _;go_simp;try with_reducible rfl))
     simp only [Act.put,List.setIfInBounds_toArray,List.set_cons_zero,List.set_cons_succ]
     refine Ya4 (by kernel_rfl) ?_
     simp only [Act.put,List.setIfInBounds_toArray,List.set_cons_zero,List.set_cons_succ]
     refine Ya4 (by kernel_rfl) ?_
     simp only [Act.put,List.setIfInBounds_toArray,List.set_cons_zero,List.set_cons_succ]
     refine Ya4 (by kernel_rfl) ?_
     simp only [Act.put,List.setIfInBounds_toArray,List.set_cons_zero,List.set_cons_succ]
     refine Ya4 (by kernel_rfl) ?_
     simp only [Act.put,List.setIfInBounds_toArray,List.set_cons_zero,List.set_cons_succ]
     refine Ya4 (by kernel_rfl) ?_
     simp only [Act.put,List.setIfInBounds_toArray,List.set_cons_zero,List.set_cons_succ]
     refine Ya4 (by kernel_rfl) ?_
     simp only [Act.put,List.setIfInBounds_toArray,List.set_cons_zero,List.set_cons_succ]
     refine Ya4 (by kernel_rfl) ?_
     simp only [Act.put,List.setIfInBounds_toArray,List.set_cons_zero,List.set_cons_succ]
     refine Ya4 (by kernel_rfl) ?_
     simp only [Act.put,List.setIfInBounds_toArray,List.set_cons_zero,List.set_cons_succ]
     refine Ya4 (by kernel_rfl) ?_
     simp only [Act.put,List.setIfInBounds_toArray,List.set_cons_zero,List.set_cons_succ]
     refine Yaa (v:=?vp19) (by kernel_rfl) ?m ?_;(case m=> (intro x _;go_simp;try with_reducible rfl))
     simp only [Act.put,List.setIfInBounds_toArray,List.set_cons_zero,List.set_cons_succ]
     refine Yaa (v:=?vp20) (by kernel_rfl) ?m ?_;(case m=> (intro x _;go_simp;try with_reducible rfl))
     simp only [Act.put,List.setIfInBounds_toArray,List.set_cons_zero,List.set_cons_succ]
     refine Yas fun x hx=> ?_
     go_wp2
     go_ret
     exact ⟨Yad (by rw [hq.out];rfl),HE.out _ hx⟩
    | true=>
     rw [hi] at C4 hq
     generalize Yt1 (32*(v:Int)+b) H=J at *
     go_wp2
     refine Yah (S:=fun x=> Below (B+1) wA x) 21 (by kernel_rfl) (by kernel_rfl) hx.drew ?_
     simp only [List.take_succ_cons,List.take_zero,List.drop_succ_cons,List.drop_zero]
     refine Yaa (v:=?vq0) (by kernel_rfl) ?m ?_;(case m=> (intro x _;go_simp;try with_reducible rfl))
     simp only [Act.put,List.setIfInBounds_toArray,List.set_cons_zero,List.set_cons_succ]
     refine Yaa (v:=?vq1) (by kernel_rfl) ?m ?_;(case m=> (intro x _;go_simp;try with_reducible rfl))
     simp only [Act.put,List.setIfInBounds_toArray,List.set_cons_zero,List.set_cons_succ]
     refine Yaa (v:=?vq2) (by kernel_rfl) ?m ?_;(case m=> (intro x _;go_simp;try with_reducible rfl))
     simp only [Act.put,List.setIfInBounds_toArray,List.set_cons_zero,List.set_cons_succ]
     refine Yae 3 _ ⟨B,0,none⟩ (.int .i64 a) (by kernel_rfl) rfl rfl (fun x hx=> by have c0:=(HC.out x hx).1;go_simp) ?_
     simp only [Act.put,List.setIfInBounds_toArray,List.set_cons_zero,List.set_cons_succ]
     refine Yaa (v:=?vq4) (by kernel_rfl) ?m ?_;(case m=> (intro x _;go_simp;try with_reducible rfl))
     simp only [Act.put,List.setIfInBounds_toArray,List.set_cons_zero,List.set_cons_succ]
     refine Yaa (v:=?vq5) (by kernel_rfl) ?m ?_;(case m=> (intro x _;go_simp;try with_reducible rfl))
     simp only [Act.put,List.setIfInBounds_toArray,List.set_cons_zero,List.set_cons_succ]
     refine Yaf (by kernel_rfl) C3.out (fun _=> by kernel_rfl) ?_
     simp only [Act.put,List.setIfInBounds_toArray,List.set_cons_zero,List.set_cons_succ]
     refine Yaa (v:=?vq7) (by kernel_rfl) ?m ?_;(case m=> (intro x _;go_simp;try with_reducible rfl))
     simp only [Act.put,List.setIfInBounds_toArray,List.set_cons_zero,List.set_cons_succ]
     refine Yaf (by kernel_rfl) C4.out (fun _=> by kernel_rfl) ?_
     simp only [Act.put,List.setIfInBounds_toArray,List.set_cons_zero,List.set_cons_succ]
     refine Yaa (v:=?vq9) (by kernel_rfl) ?m ?_;(case m=> (intro x _;go_simp;try with_reducible rfl))
     simp only [Act.put,List.setIfInBounds_toArray,List.set_cons_zero,List.set_cons_succ]
     refine Yaa (v:=?vq10) (by kernel_rfl) ?m ?_;(case m=> (intro x _;go_simp;try with_reducible rfl))
     simp only [Act.put,List.setIfInBounds_toArray,List.set_cons_zero,List.set_cons_succ]
     refine Yaa (v:=?vq11) (by kernel_rfl) ?m ?_;(case m=> (intro x _;go_simp;try with_reducible rfl))
     simp only [Act.put,List.setIfInBounds_toArray,List.set_cons_zero,List.set_cons_succ]
     refine Yaa (v:=?vq12) (by kernel_rfl) ?m ?_;(case m=> (intro x _;go_simp;try with_reducible rfl))
     simp only [Act.put,List.setIfInBounds_toArray,List.set_cons_zero,List.set_cons_succ]
     refine Yae 3 _ ⟨B,1,none⟩ (.int .i64 b) (by kernel_rfl) rfl rfl (fun x hx=> by have c0:=(HC.out x hx).2;go_simp) ?_
     simp only [Act.put,List.setIfInBounds_toArray,List.set_cons_zero,List.set_cons_succ]
     refine Yaa (v:=?vq14) (by kernel_rfl) ?m ?_;(case m=> (intro x _;go_simp;try with_reducible rfl))
     simp only [Act.put,List.setIfInBounds_toArray,List.set_cons_zero,List.set_cons_succ]
     refine Yaa (v:=?vq15) (by kernel_rfl) ?m ?_;(case m=> (intro x _;go_simp;try with_reducible rfl))
     simp only [Act.put,List.setIfInBounds_toArray,List.set_cons_zero,List.set_cons_succ]
     refine Yaf (by kernel_rfl) C3.out (fun _=> by kernel_rfl) ?_
     simp only [Act.put,List.setIfInBounds_toArray,List.set_cons_zero,List.set_cons_succ]
     refine Yaa (v:=?vq17) (by kernel_rfl) ?m ?_;(case m=> (intro x _;go_simp;try with_reducible rfl))
     simp only [Act.put,List.setIfInBounds_toArray,List.set_cons_zero,List.set_cons_succ]
     refine Yaf (by kernel_rfl) C5.out (fun _=> by kernel_rfl) ?_
     simp only [Act.put,List.setIfInBounds_toArray,List.set_cons_zero,List.set_cons_succ]
     refine Yaa (v:=?vq19) (by kernel_rfl) ?m ?_;(case m=> (intro x _;go_simp;try with_reducible rfl))
     simp only [Act.put,List.setIfInBounds_toArray,List.set_cons_zero,List.set_cons_succ]
     refine Yaa (v:=?vq20) (by kernel_rfl) ?m ?_;(case m=> (intro x _;go_simp;try with_reducible rfl))
     simp only [Act.put,List.setIfInBounds_toArray,List.set_cons_zero,List.set_cons_succ]
     refine Yas fun x hx=> ?_
     go_wp2
     go_ret
     exact ⟨Yad (by rw [hq.out];rfl),HE.out _ hx⟩
end Go.Proofs.YtgikochfffdpfaaGreatDoor