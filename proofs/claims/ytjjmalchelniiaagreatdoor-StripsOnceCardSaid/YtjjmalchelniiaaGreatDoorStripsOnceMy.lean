/- Part 25 of StripsOnce. No condition. -/
import Derived.Test.YtjjmalchelniiaaGreatDoorStripsOnceMa
import Derived.Test.YtjjmalchelniiaaGreatDoorStripsOnceMb
import Derived.Test.YtjjmalchelniiaaGreatDoorStripsOnceMe
import Derived.Test.YtjjmalchelniiaaGreatDoorStripsOnceMh
import Derived.Test.YtjjmalchelniiaaGreatDoorStripsOnceMi
import Derived.Test.YtjjmalchelniiaaGreatDoorStripsOnceMj
import Derived.Test.YtjjmalchelniiaaGreatDoorStripsOnceMk
import Derived.WalkMore
import Derived.Laws.Slices
import Derived.Laws.IdiomCopy
import Derived.Laws.BytesArg
import Derived.Laws.World
import Derived.Test.YtjjmalchelniiaaGreatDoorRows
import Derived.WalkKit
import Derived.ProofKit
import Derived.Lib.Hide
namespace Go.Proofs.YtjjmalchelniiaaGreatDoor
open Go.RowKit Go.Lib
def Y6n (f:Nat→Int×Int)(n a:Nat):Int×Int:=if 0<n%a then f (n-1) else (0,0)
def upV (n a:Nat)(first:Int):Bool:=decide (0<n / a)&&decide (first<((n / a:Nat):Int))
def Qgb (f:Nat→Int×Int)(n a:Nat)(first:Int):Int×Int:=if upV n a first then f (n-a) else Y6n f n a
def Qgq (f:Nat→Int×Int)(n a:Nat)(first:Int):Int×Int:=if upV n a first then (if n%a<a-1 then f (n-a+1) else (0,0)) else Y6n f n a
def Qi5 (f:Nat→Int×Int)(n:Nat)(across first:Int):Int×Int:=
 if across<1 then (0,0)
 else (Ymf (Y6n f n across.toNat).1 (Qgb f n across.toNat first).1 (Qgq f n across.toNat first).1,Ymf (Y6n f n across.toNat).2 (Qgb f n across.toNat first).2 (Qgq f n across.toNat first).2)
def Y5s (x y z:Int×Int):Array Value:=#[.int .i64 x.1,.int .i64 x.2,.int .i64 y.1,.int .i64 y.2,.int .i64 z.1,.int .i64 z.2]
theorem Qea {n A:Nat}(h:1≤A):(n:Int).tmod (A:Int)=((n%A:Nat):Int)∧(n:Int).tdiv (A:Int)=((n / A:Nat):Int)∧n%A<A∧(0<n%A→1≤n)∧(0<n / A→A≤n)∧n / A≤n:=by
 refine⟨by rw[Int.tmod_eq_emod_of_nonneg (by omega)];rfl,by rw[Int.tdiv_eq_ediv_of_nonneg (by omega)];rfl,Nat.mod_lt _ h,fun h1=>?_,fun h1=>?_,Nat.div_le_self _ _⟩
 ·rcases Nat.eq_zero_or_pos n with rfl|h2
  ·simp at h1
  ·exact h2
 ·rcases Nat.lt_or_ge n A with h2|h2
  ·rw[Nat.div_eq_of_lt h2] at h1;omega
  ·exact h2
def Y2k:Obj:=.cells #[.int .i64 0,.int .i64 0,.int .i64 0,.int .i64 0,.int .i64 0,.int .i64 0] 191 (0,0)
def zerO:Obj:=.cells #[.int .i64 0,.int .i64 0] 73 (0,0)
theorem Y0t (w:World)(o1 o2 o3 o4:Obj):Below w.heap.size w ((((w.alloc o1).alloc o2).alloc o3).alloc o4):=
 ((((Below.refl _ w).alloc (Nat.le_refl _) _).alloc (by simp) _).alloc (by simp;omega) _).alloc (by simp;omega) _
theorem Yep (w:World)(o1 o2 o3 o4:Obj):((((w.alloc o1).alloc o2).alloc o3).alloc o4).drew.heap[w.heap.size]? =some o1:=
 Ybc (Ybc (Ybc (heap_alloc_new w o1)))
set_option maxHeartbeats 1000000 in
theorem Yys (f:Nat→Int×Int)(p:Option Addr)(n cap A:Nat)(first:Int)(w:World)(ha:Ynq w p n f)(hn:n≤maxLen)(h1:1≤A)(hA:A≤9223372036854775807):
  Calls Tryz.prog 168 #[.slice p n cap,.int .i64 (A:Int),.int .i64 first] w fun e w'=>e=.returned (.agg (Y5s (Y6n f n A) (Qgb f n A first) (Qgq f n A first)))∧Below w.heap.size w w':=by
 unfold maxLen at hn;obtain⟨m1,m2,m3,m4,m5,m6⟩:=Qea (n:=n) h1;have z0:((A:Int)==0)=false:=by simp;omega
 have e1:(n:Int)%(A:Int)=((n%A:Nat):Int):=rfl;have e2:(n:Int) / (A:Int)=((n / A:Nat):Int):=rfl;have wd:IntKind.i64.wrap ((n / A:Nat):Int)=((n / A:Nat):Int):=Qby (by omega);have HL:=Lib.hid (show Y6n f n A=if 0<n%A then f (n-1) else (0,0) from rfl);have HU:=Lib.hid (show Qgb f n A first=if upV n A first then f (n-A) else Y6n f n A from rfl)
 have HR:=Lib.hid (show Qgq f n A first=if upV n A first then (if n%A<A-1 then f (n-A+1) else (0,0)) else Y6n f n A from rfl);have hup:upV n A first=(decide (0<n / A)&&decide (first<((n / A:Nat):Int))):=rfl
 obtain⟨mx,hmx⟩:∃mx,(if first<0 then 0 else first)=mx:=⟨_,rfl⟩;have hmx2:0≤mx∧first≤mx∧(mx=0∨mx=first):=by rw[←hmx];split <;> omega
 have hr0:=Qbv ha;clear ha;generalize Y6n f n A=L at *;generalize Qgb f n A first=U at *
 generalize Qgq f n A first=R at *
 generalize upV n A first=up at *
 generalize n%A=c at *;generalize n / A=q at *;have KT:=Lib.hid (fun o1 o2 o3 o4=>Y0t w o1 o2 o3 o4);clear m1 m2;have HW:=Lib.hid wd;by_cases hc:0<c
 ·have t0:decide (0<c)=true:=decide_eq_true (by omega);have m7:=m4 hc;obtain⟨k,hk⟩:∃k,n-1=k:=⟨_,rfl⟩;have hkn:k<n:=by omega
  have nk:(n:Int)-1=(k:Int):=by omega
  rw[if_pos hc,hk] at HL;obtain⟨b,o,rfl,hr⟩:=hr0 (by omega);obtain⟨c0,c1⟩:=hr _ (KT.out Y2k zerO zerO zerO).drew k hkn;unfold Y2k zerO at c0 c1;clear m4;by_cases hu:up=true
  rotate_left
  ·rw[if_neg hu] at HU HR;have t1:decide ((q:Int)≤mx)=true:=decide_eq_true (by
    rcases Nat.eq_zero_or_pos q with h|h
    ·omega
    ·have hf:¬ first<(q:Int):=fun h2=>hu (by rw[hup,decide_eq_true h,decide_eq_true h2];rfl)
     omega)
   clear m3 m6 hup;clear hc hr hr0 hu
   go_enter Tryz.func168,Tryz.ntmps168
   go_wp2
   go_region
   go_wp2
   refine bodyPost_ret (results_cell_row rfl _ _ w.heap.size 191 _ (0,0) _ rfl (Yep w _ _ _ _) Tryz.underlying191 rfl (by kernel_rfl)) rfl ?_;exact⟨by rw[HU.out,HR.out,HL.out];rfl,(KT.out _ _ _ _).drew⟩
  ·rw[if_pos hu] at HU HR;rw[hup,Bool.and_eq_true,decide_eq_true_iff,decide_eq_true_iff] at hu;obtain⟨u1,u2⟩:=hu;have m8:=m5 u1;have t1:decide ((q:Int)≤mx)=false:=decide_eq_false (by omega);obtain⟨j,hj⟩:∃j,n-A=j:=⟨_,rfl⟩;have hjn:j<n:=by omega
   have nj:(n:Int)-(A:Int)=(j:Int):=by omega
   rw[hj] at HU HR;by_cases hg:c<A-1
   ·rw[if_pos hg] at HR;have t2:decide ((c:Int)<(A:Int)-1)=true:=decide_eq_true (by omega);have hjn2:j+1<n:=by omega
    clear m3 m6 hup;obtain⟨c2,c3⟩:=hr _ (KT.out Y2k (.cells #[.int .i64 (f k).1,.int .i64 (f k).2] 73 (0,0)) zerO zerO).drew j hjn;unfold Y2k zerO at c2 c3;obtain⟨c4,c5⟩:=hr _ (KT.out Y2k (.cells #[.int .i64 (f k).1,.int .i64 (f k).2] 73 (0,0)) (.cells #[.int .i64 (f j).1,.int .i64 (f j).2] 73 (0,0)) zerO).drew (j+1) hjn2;unfold Y2k zerO at c4 c5;clear hc hr hr0 hg
    go_enter Tryz.func168,Tryz.ntmps168
    go_wp2
    go_region
    go_wp2
    refine bodyPost_ret (results_cell_row rfl _ _ w.heap.size 191 _ (0,0) _ rfl (Yep w _ _ _ _) Tryz.underlying191 rfl (by kernel_rfl)) rfl ?_;exact⟨by rw[HU.out,HR.out,HL.out];rfl,(KT.out _ _ _ _).drew⟩
   ·rw[if_neg hg] at HR;have t2:decide ((c:Int)<(A:Int)-1)=false:=decide_eq_false (by omega);clear m3 m6 hup;obtain⟨c2,c3⟩:=hr _ (KT.out Y2k (.cells #[.int .i64 (f k).1,.int .i64 (f k).2] 73 (0,0)) zerO zerO).drew j hjn;unfold Y2k zerO at c2 c3;clear hc hr hr0 hg
    go_enter Tryz.func168,Tryz.ntmps168
    go_wp2
    go_region
    go_wp2
    refine bodyPost_ret (results_cell_row rfl _ _ w.heap.size 191 _ (0,0) _ rfl (Yep w _ _ _ _) Tryz.underlying191 rfl (by kernel_rfl)) rfl ?_;exact⟨by rw[HU.out,HR.out,HL.out];rfl,(KT.out _ _ _ _).drew⟩
 ·have t0:decide (0<c)=false:=decide_eq_false (by omega);rw[if_neg hc] at HL;clear m4;by_cases hu:up=true
  rotate_left
  ·rw[if_neg hu] at HU HR;have t1:decide ((q:Int)≤mx)=true:=decide_eq_true (by
    rcases Nat.eq_zero_or_pos q with h|h
    ·omega
    ·have hf:¬ first<(q:Int):=fun h2=>hu (by rw[hup,decide_eq_true h,decide_eq_true h2];rfl)
     omega)
   clear m3 m6 hup;clear hc hr0 hu
   go_enter Tryz.func168,Tryz.ntmps168
   go_wp2
   go_region
   go_wp2
   refine bodyPost_ret (results_cell_row rfl _ _ w.heap.size 191 _ (0,0) _ rfl (Yep w _ _ _ _) Tryz.underlying191 rfl (by kernel_rfl)) rfl ?_;exact⟨by rw[HU.out,HR.out,HL.out];rfl,(KT.out _ _ _ _).drew⟩
  ·rw[if_pos hu] at HU HR;rw[hup,Bool.and_eq_true,decide_eq_true_iff,decide_eq_true_iff] at hu;obtain⟨u1,u2⟩:=hu;have m8:=m5 u1;have t1:decide ((q:Int)≤mx)=false:=decide_eq_false (by omega);obtain⟨j,hj⟩:∃j,n-A=j:=⟨_,rfl⟩;have hjn:j<n:=by omega
   have nj:(n:Int)-(A:Int)=(j:Int):=by omega
   rw[hj] at HU HR;obtain⟨b,o,rfl,hr⟩:=hr0 (by omega);by_cases hg:c<A-1
   ·rw[if_pos hg] at HR;have t2:decide ((c:Int)<(A:Int)-1)=true:=decide_eq_true (by omega);have hjn2:j+1<n:=by omega
    clear m3 m6 hup;obtain⟨c2,c3⟩:=hr _ (KT.out Y2k zerO zerO zerO).drew j hjn;unfold Y2k zerO at c2 c3;obtain⟨c4,c5⟩:=hr _ (KT.out Y2k zerO (.cells #[.int .i64 (f j).1,.int .i64 (f j).2] 73 (0,0)) zerO).drew (j+1) hjn2;unfold Y2k zerO at c4 c5;clear hc hr hr0 hg
    go_enter Tryz.func168,Tryz.ntmps168
    go_wp2
    go_region
    go_wp2
    refine bodyPost_ret (results_cell_row rfl _ _ w.heap.size 191 _ (0,0) _ rfl (Yep w _ _ _ _) Tryz.underlying191 rfl (by kernel_rfl)) rfl ?_;exact⟨by rw[HU.out,HR.out,HL.out];rfl,(KT.out _ _ _ _).drew⟩
   ·rw[if_neg hg] at HR;have t2:decide ((c:Int)<(A:Int)-1)=false:=decide_eq_false (by omega);clear m3 m6 hup;obtain⟨c2,c3⟩:=hr _ (KT.out Y2k zerO zerO zerO).drew j hjn;unfold Y2k zerO at c2 c3;clear hc hr hr0 hg
    go_enter Tryz.func168,Tryz.ntmps168
    go_wp2
    go_region
    go_wp2
    refine bodyPost_ret (results_cell_row rfl _ _ w.heap.size 191 _ (0,0) _ rfl (Yep w _ _ _ _) Tryz.underlying191 rfl (by kernel_rfl)) rfl ?_;exact⟨by rw[HU.out,HR.out,HL.out];rfl,(KT.out _ _ _ _).drew⟩
def Ysx (x:Int×Int)(w:World)(e:Ending)(w':World):Prop:=e=.returned (.agg (Y2w x.1 x.2))∧Below w.heap.size w w'
theorem Ypq {w:World}{N:Nat}{x y z:Int×Int}(h:w.heap[N]? =some (.cells (Y5s x y z) 191 (0,0))):
  (w.cell? ⟨N,0,none⟩=some (.int .i64 x.1)∧w.cell? ⟨N,2,none⟩=some (.int .i64 y.1)∧w.cell? ⟨N,4,none⟩=some (.int .i64 z.1))∧w.cell? ⟨N,1,none⟩=some (.int .i64 x.2)∧w.cell? ⟨N,3,none⟩=some (.int .i64 y.2)∧w.cell? ⟨N,5,none⟩=some (.int .i64 z.2):=by
 have k:=fun(o:Nat) (v:Value) (hv:[Value.int .i64 x.1,.int .i64 x.2,.int .i64 y.1,.int .i64 y.2,.int .i64 z.1,.int .i64 z.2][o]? =some v)=>Yab (o:=o) (cs:=[.int .i64 x.1,.int .i64 x.2,.int .i64 y.1,.int .i64 y.2,.int .i64 z.1,.int .i64 z.2]) h hv;exact⟨⟨k 0 _ rfl,k 2 _ rfl,k 4 _ rfl⟩,k 1 _ rfl,k 3 _ rfl,k 5 _ rfl⟩
theorem Yx8 (w:World)(o1 o2:Obj):((w.alloc o1).alloc o2).heap[w.heap.size]? =some o1:=Ybc (heap_alloc_new w o1)
set_option maxHeartbeats 2000000 in
theorem Yrj (f:Nat→Int×Int)(p:Option Addr)(n cap:Nat)(across first:Int)(w:World)(ha:Ynq w p n f)(hn:n≤maxLen)(hA:across≤9223372036854775807):
  Calls Tryz.prog 140 #[.slice p n cap,.int .i64 across,.int .i64 first] w (Ysx (Qi5 f n across first) w):=by
 have HM:=Lib.hid (show Qi5 f n across first=if across<1 then (0,0) else (Ymf (Y6n f n across.toNat).1 (Qgb f n across.toNat first).1 (Qgq f n across.toNat first).1,Ymf (Y6n f n across.toNat).2 (Qgb f n across.toNat first).2 (Qgq f n across.toNat first).2) from rfl);generalize Qi5 f n across first=M at *
 by_cases h1:across<1
 ·have t0:decide (across<1)=true:=decide_eq_true h1;rw[if_pos h1] at HM;clear ha hn hA h1
  go_enter Tryz.func140,Tryz.ntmps140
  go_wp2
  refine bodyPost_ret (results_cell_row rfl _ _ w.heap.size 73 _ (0,0) _ rfl (Yx8 w _ _) Tryz.underlying73 rfl (by kernel_rfl)) rfl ?_;exact⟨by rw[HM.out];rfl,((Below.refl _ w).alloc (Nat.le_refl _) _).alloc (by simp) _⟩
 ·have t0:decide (across<1)=false:=decide_eq_false h1;rw[if_neg h1] at HM;obtain⟨A,rfl⟩:∃A:Nat,across=(A:Int):=⟨across.toNat,by omega⟩;rw[Int.toNat_natCast] at HM;have c:=fun x (hx:Below w.heap.size w x)=>Yys f p n cap A first x (ha.mono hx) hn (by omega) (by omega)
  have HT:Below w.heap.size w ((w.alloc zerO).alloc zerO):=((Below.refl _ w).alloc (Nat.le_refl _) _).alloc (by simp) _;generalize Y6n f n A=L at *;generalize Qgb f n A first=U at *
  generalize Qgq f n A first=R at *
  have T1:=Yx8 w zerO zerO;have T2:((w.alloc zerO).alloc zerO).heap[w.heap.size+1]? =some zerO:=by simpa using heap_alloc_new (w.alloc zerO) zerO
  have T3:((w.alloc zerO).alloc zerO).heap.size=w.heap.size+2:=by simp
  obtain⟨wA,hwA⟩:∃wA,(w.alloc zerO).alloc zerO=wA:=⟨_,rfl⟩;have HC:=Lib.hid (c wA (hwA▸HT));rw[hwA] at T1 T2 T3 HT;obtain⟨B,hB⟩:∃B,w.heap.size=B:=⟨_,rfl⟩;rw[hB] at T1 T2 T3 HT;have HW:=Lib.hid hwA;have HB:=Lib.hid hB;unfold zerO at HW;clear c ha hn h1 hA hB hwA
  go_enter Tryz.func140,Tryz.ntmps140
  go_wp2_with fail
  rw[HW.out,HB.out]
  go_wp2_with (with_reducible refine HC.out.mono ?_;rintro e w1 ⟨rfl,hb1⟩;obtain⟨N,hN⟩:∃N,w1.heap.size=N:=⟨_,rfl⟩;have hz1:B+2≤N:=(by have:=hb1.size;omega);have K0:=(hb1.block B (by omega)).trans T1;have K1:=(hb1.block (B+1) (by omega)).trans T2;have KB:Below B w w1:=HT.trans (hb1.mono (by omega));clear hb1 T1 T2 T3 HT;have hN2:=Lib.hid hN;unfold Y5s)
  have K2:=heap_alloc_new w1 (.cells (Y5s L U R) 191 (0,0));rw[hN] at K2;have K3:Below B w (w1.alloc (.cells (Y5s L U R) 191 (0,0))):=KB.alloc (by omega) _;have K4:(w1.alloc (.cells (Y5s L U R) 191 (0,0))).heap.size=N+1:=by simp[hN]
  replace K0:=Ybc (ob:=.cells (Y5s L U R) 191 (0,0)) K0
  replace K1:=Ybc (ob:=.cells (Y5s L U R) 191 (0,0)) K1
  change Code.wp _ _ _ _ (w1.alloc (.cells (Y5s L U R) 191 (0,0)));generalize w1.alloc (.cells (Y5s L U R) 191 (0,0))=w2 at *;clear hN hN2 KB;obtain⟨l0,l1⟩:=L;obtain⟨u0,u1⟩:=U;obtain⟨r0,r1⟩:=R;obtain⟨m0,hm0⟩:∃m,Ymf l0 u0 r0=m:=⟨_,rfl⟩;obtain⟨m1,hm1⟩:∃m,Ymf l1 u1 r1=m:=⟨_,rfl⟩;have C0:=Lib.hid (fun w=>You l0 u0 r0 w);have C1:=Lib.hid (fun w=>You l1 u1 r1 w);rw[hm0] at C0;rw[hm1] at C1
  replace HM:=Lib.hid (show M=(m0,m1) by rw[HM.out,←hm0,←hm1])
  clear hm0 hm1 HC HW
  go_loopw [17] (fun z wr=>∃j:Nat,j≤2∧z=.int .i64 j∧wr.heap[B]? =some zerO∧wr.heap[B+1]? =some (.cells (Y2w (if 0<j then m0 else 0) (if 1<j then m1 else 0)) 73 (0,0))∧wr.heap[N]? =some (.cells (Y5s (l0,l1) (u0,u1) (r0,r1)) 191 (0,0))∧Below B w wr∧N+1≤wr.heap.size) (fun z _=>2-(intOf z).toNat)
  case atStart=>exact⟨0,by omega,rfl,K0,K1,K2,K3,by omega⟩
  case round=>
   clear K0 K1 K2 K3 K4;obtain⟨j,hj,rfl,k0,k1,k2,kb,kz⟩:=hrel;obtain⟨⟨x0,x1,x2⟩,x3,x4,x5⟩:=Ypq k2;have hcase:j=0∨j=1∨j=2:=by omega
   rcases hcase with rfl|rfl|rfl
   ·go_wp2
    have C:=Lib.hid (fun(x:World) (hx:Below wr.heap.size wr x)=>(C0.out x).mono fun e y h=>(⟨h.1,h.2▸hx⟩:e=.returned (.int .i64 m0)∧Below wr.heap.size wr y));have HX:=Lib.hid (fun(x:World) (hx:Below wr.heap.size wr x)=>Ypq ((hx.block N (by omega)).trans k2));refine Ya0 (S:=fun x=>Below wr.heap.size wr x) 15 (by kernel_rfl) (by kernel_rfl) (Below.refl _ _).drew ?_
    simp only[List.take_succ_cons,List.take_zero,List.drop_succ_cons,List.drop_zero]
    iterate 4 (refine Yaf (by kernel_rfl) (fun x _=>by go_simp;try with_reducible rfl) ?_;simp only[Yaa])
    refine Ya7 3 _ ⟨(N),0,none⟩ (.int .i64 l0) (by kernel_rfl) rfl rfl (fun x hx=>by have c0:=(HX.out x hx).1.1;go_simp) ?_;simp only[Yaa]
    iterate 3 (refine Yaf (by kernel_rfl) (fun x _=>by go_simp;try with_reducible rfl) ?_;simp only[Yaa])
    refine Ya7 3 _ ⟨(N),2,none⟩ (.int .i64 u0) (by kernel_rfl) rfl rfl (fun x hx=>by have c0:=(HX.out x hx).1.2.1;go_simp) ?_;simp only[Yaa]
    iterate 3 (refine Yaf (by kernel_rfl) (fun x _=>by go_simp;try with_reducible rfl) ?_;simp only[Yaa])
    refine Ya7 3 _ ⟨(N),4,none⟩ (.int .i64 r0) (by kernel_rfl) rfl rfl (fun x hx=>by have c0:=(HX.out x hx).1.2.2;go_simp) ?_;simp only[Yaa];refine Ya9 (by kernel_rfl) C.out (fun _=>by kernel_rfl) ?_;simp only[Yaa];refine Yaf (by kernel_rfl) (fun x _=>by go_simp;try with_reducible rfl) ?_;simp only[Yaa];refine Ych fun x hx=>?_
    have q1:x.heap[B+1]? =some (.cells (Y2w 0 0) 73 (0,0)):=(hx.block (B+1) (by omega)).trans k1;have y0:=(Y2x q1).1;have ff:x.frozen? ⟨B+1,0,none⟩=false:=Yai (cs:=[.int .i64 0,.int .i64 0]) q1
    have PUT:=Lib.hid (⟨Yki ((hx.block B (by omega)).trans k0) (by simp),Yau (o:=0) (cs:=[.int .i64 0,.int .i64 0]) (.int .i64 m0) q1,Yki ((hx.block N (by omega)).trans k2) (by simp;omega),(kb.trans (hx.mono (by omega))).setCell (by simp) _,by simp[World.setCell];have:=hx.size;omega⟩:(x.setCell ⟨B+1,0,none⟩ (.int .i64 m0)).heap[B]? =some zerO∧(x.setCell ⟨B+1,0,none⟩ (.int .i64 m0)).heap[B+1]? =some (.cells (Y2w m0 0) 73 (0,0))∧(x.setCell ⟨B+1,0,none⟩ (.int .i64 m0)).heap[N]? =some (.cells (Y5s (l0,l1) (u0,u1) (r0,r1)) 191 (0,0))∧Below B w (x.setCell ⟨B+1,0,none⟩ (.int .i64 m0))∧N+1≤(x.setCell ⟨B+1,0,none⟩ (.int .i64 m0)).heap.size)
    clear q1
    go_wp2
    go_roundw
    case rel=>exact⟨1,by omega,rfl,PUT.out⟩
    case measure=>simp[intOf]
   ·go_wp2
    have C:=Lib.hid (fun(x:World) (hx:Below wr.heap.size wr x)=>(C1.out x).mono fun e y h=>(⟨h.1,h.2▸hx⟩:e=.returned (.int .i64 m1)∧Below wr.heap.size wr y));have HX:=Lib.hid (fun(x:World) (hx:Below wr.heap.size wr x)=>Ypq ((hx.block N (by omega)).trans k2));refine Ya0 (S:=fun x=>Below wr.heap.size wr x) 15 (by kernel_rfl) (by kernel_rfl) (Below.refl _ _).drew ?_
    simp only[List.take_succ_cons,List.take_zero,List.drop_succ_cons,List.drop_zero]
    iterate 4 (refine Yaf (by kernel_rfl) (fun x _=>by go_simp;try with_reducible rfl) ?_;simp only[Yaa])
    refine Ya7 3 _ ⟨(N),1,none⟩ (.int .i64 l1) (by kernel_rfl) rfl rfl (fun x hx=>by have c0:=(HX.out x hx).2.1;go_simp) ?_;simp only[Yaa]
    iterate 3 (refine Yaf (by kernel_rfl) (fun x _=>by go_simp;try with_reducible rfl) ?_;simp only[Yaa])
    refine Ya7 3 _ ⟨(N),3,none⟩ (.int .i64 u1) (by kernel_rfl) rfl rfl (fun x hx=>by have c0:=(HX.out x hx).2.2.1;go_simp) ?_;simp only[Yaa]
    iterate 3 (refine Yaf (by kernel_rfl) (fun x _=>by go_simp;try with_reducible rfl) ?_;simp only[Yaa])
    refine Ya7 3 _ ⟨(N),5,none⟩ (.int .i64 r1) (by kernel_rfl) rfl rfl (fun x hx=>by have c0:=(HX.out x hx).2.2.2;go_simp) ?_;simp only[Yaa];refine Ya9 (by kernel_rfl) C.out (fun _=>by kernel_rfl) ?_;simp only[Yaa];refine Yaf (by kernel_rfl) (fun x _=>by go_simp;try with_reducible rfl) ?_;simp only[Yaa];refine Ych fun x hx=>?_
    have q1:x.heap[B+1]? =some (.cells (Y2w m0 0) 73 (0,0)):=(hx.block (B+1) (by omega)).trans k1;have y1:=(Y2x q1).2;have ff:x.frozen? ⟨B+1,1,none⟩=false:=Yai (cs:=[.int .i64 m0,.int .i64 0]) q1
    have PUT:=Lib.hid (⟨Yki ((hx.block B (by omega)).trans k0) (by simp),Yau (o:=1) (cs:=[.int .i64 m0,.int .i64 0]) (.int .i64 m1) q1,Yki ((hx.block N (by omega)).trans k2) (by simp;omega),(kb.trans (hx.mono (by omega))).setCell (by simp) _,by simp[World.setCell];have:=hx.size;omega⟩:(x.setCell ⟨B+1,1,none⟩ (.int .i64 m1)).heap[B]? =some zerO∧(x.setCell ⟨B+1,1,none⟩ (.int .i64 m1)).heap[B+1]? =some (.cells (Y2w m0 m1) 73 (0,0))∧(x.setCell ⟨B+1,1,none⟩ (.int .i64 m1)).heap[N]? =some (.cells (Y5s (l0,l1) (u0,u1) (r0,r1)) 191 (0,0))∧Below B w (x.setCell ⟨B+1,1,none⟩ (.int .i64 m1))∧N+1≤(x.setCell ⟨B+1,1,none⟩ (.int .i64 m1)).heap.size)
    clear q1
    go_wp2
    go_roundw
    case rel=>exact⟨2,by omega,rfl,PUT.out⟩
    case measure=>simp[intOf]
   ·obtain⟨y0,y1⟩:=Y2x (a:=m0) (b:=m1) k1;unfold zerO at k0;have g1:(Tryz.prog.info? 73).map (·.size)=some (#[.int .i64 m0,.int .i64 m1]:Array Value).size:=Qfu;have g2:(#[.int .i64 0,.int .i64 0]:Array Value).size=(#[.int .i64 m0,.int .i64 m1]:Array Value).size:=rfl;have g3:(#[.int .i64 m0,.int .i64 m1]:Array Value).all (·.oneCell')=true:=Qis m0 m1
    go_wp2_with (with_reducible refine Yaj rfl 73 _ _ rfl B #[.int .i64 m0,.int .i64 m1] #[.int .i64 0,.int .i64 0] rfl rfl 73 k0 g1 g2 g3 ?_;intro w3 hh3 hg3)
    refine bodyPost_ret (results_cell_row rfl _ _ B 73 _ (0,0) _ rfl hh3 Tryz.underlying73 rfl (by kernel_rfl)) rfl ?_;exact⟨by rw[HM.out];rfl,by rw[HB.out];exact kb.grown hg3 (by omega) (fun k hk=>by injection hk with hk;omega)⟩
theorem Y8v (k n:Int)(w:World):Calls Tryz.prog 120 #[.int .i64 k,.int .i64 n] w fun e w'=>e=.returned (.bool (Qgn k n))∧w=w':=by
 have c:=fun w=>Yfn k w;obtain⟨h1,h2,_⟩:=Yje k;rw[←h1,←h2] at c;have hs:(acr k:Int)*(dow k:Int)=(Yji k:Int):=(Int.natCast_mul _ _).symm;have hw:IntKind.i64.wrap (Yji k:Int)=(Yji k:Int):=Yif (by have:=Y3r k;omega);have hq:=Lib.hid (show Qgn k n=(decide (0≤n)&&decide (n<(Yji k:Int))) from rfl);generalize Qgn k n=y at *;clear h1 h2;generalize acr k=a at *;generalize dow k=b at *
 generalize Yji k=m at *;cases t0:decide (0≤n)
 ·rw[t0] at hq
  go_enter Tryz.func120,Tryz.ntmps120
  go_wp2_with (with_reducible refine(c _).mono ?_;rintro e w1 ⟨rfl,rfl⟩)
  go_ret
  exact⟨Yan (by rw[hq.out];rfl),rfl⟩
 ·rw[t0] at hq
  go_enter Tryz.func120,Tryz.ntmps120
  go_wp2_with (with_reducible refine(c _).mono ?_;rintro e w1 ⟨rfl,rfl⟩)
  go_ret
  exact⟨Yan (by rw[hq.out];rfl),rfl⟩
theorem Yrx (c m:Nat)(v:Int)(w:World)(hc:c≤1000)(hm:m≤1000):Calls Tryz.prog 121 #[.int .i64 (c:Int),.int .i64 (m:Int),.int .i64 v] w fun e w'=>e=.returned (.bool (Yi8 c m v))∧w=w':=by
 have hq:=Lib.hid (show Yi8 c m v=(decide (-32≤v∧v≤31)&&decide (0≤32*(c:Int)+v∧32*(c:Int)+v+30≤32*(m:Int)-2)) from rfl);generalize Yi8 c m v=y at *;by_cases h1:v < -32
 ·have t1:decide (v < -32)=true:=decide_eq_true h1;rw[decide_eq_false (show ¬ (-32≤v∧v≤31) by omega)] at hq
  go_enter Tryz.func121,Tryz.ntmps121
  go_wp2
  go_ret
  exact⟨Yan (by rw[hq.out];rfl),rfl⟩
 have t1:decide (v < -32)=false:=decide_eq_false h1;by_cases h2:31<v
 ·have t2:decide (31<v)=true:=decide_eq_true h2;rw[decide_eq_false (show ¬ (-32≤v∧v≤31) by omega)] at hq
  go_enter Tryz.func121,Tryz.ntmps121
  go_wp2
  go_ret
  exact⟨Yan (by rw[hq.out];rfl),rfl⟩
 have t2:decide (31<v)=false:=decide_eq_false h2;rw[decide_eq_true (show -32≤v∧v≤31 by omega)] at hq;by_cases h3:0≤32*(c:Int)+v
 ·have t3:decide (0≤32*(c:Int)+v)=true:=decide_eq_true h3;have hr:decide (0≤32*(c:Int)+v∧32*(c:Int)+v+30≤32*(m:Int)-2)=decide (32*(c:Int)+v+30≤2*(16*(m:Int)-1)):=by
   by_cases h:32*(c:Int)+v+30≤2*(16*(m:Int)-1)
   ·rw[decide_eq_true h,decide_eq_true];omega
   ·rw[decide_eq_false h,decide_eq_false];omega
  rw[hr] at hq;clear hr
  go_enter Tryz.func121,Tryz.ntmps121
  go_wp2
  go_ret
  exact⟨Yan (by rw[hq.out];rfl),rfl⟩
 ·have t3:decide (0≤32*(c:Int)+v)=false:=decide_eq_false h3;rw[decide_eq_false (show ¬ (0≤32*(c:Int)+v∧32*(c:Int)+v+30≤32*(m:Int)-2) by omega)] at hq
  go_enter Tryz.func121,Tryz.ntmps121
  go_wp2
  go_ret
  exact⟨Yan (by rw[hq.out];rfl),rfl⟩
theorem Qc9 {k:Int}{n:Nat}(h:n<Yji k):(n:Int).tmod (acr k:Int)=((n%acr k:Nat):Int)∧(n:Int).tdiv (acr k:Int)=((n / acr k:Nat):Int)∧IntKind.i64.wrap ((n / acr k:Nat):Int)=((n / acr k:Nat):Int)∧((acr k:Int)==0)=false∧n%acr k<acr k∧n / acr k<dow k∧acr k≤88∧dow k≤72:=by
 obtain⟨h0,h1,h2⟩:=Y3q h;obtain⟨-,-,-,-,h3,h4⟩:=Yje k;refine⟨by rw[Int.tmod_eq_emod_of_nonneg (by omega)];rfl,by rw[Int.tdiv_eq_ediv_of_nonneg (by omega)];rfl,Qby (by omega),by simp;omega,h1,h2,h3,h4⟩
set_option maxRecDepth 100000 in
set_option maxHeartbeats 2000000 in
theorem Y1y (k n a b:Int)(w:World):Calls Tryz.prog 84 #[.int .i64 k,.int .i64 n,.agg (Y2w a b)] w fun e w'=>e=.returned (.bool (Y9c k n a b))∧Below w.heap.size w w':=by
 have c1:=fun w=>Y8v k n w;have c2:=fun w=>Yfn k w;obtain⟨e1,e2,-⟩:=Yje k;rw[←e1,←e2] at c2;clear e1 e2;have hq:=Lib.hid (show Y9c k n a b=(Qgn k n&&(Yi8 (n.toNat%acr k) (acr k) a&&Yi8 (n.toNat / acr k) (dow k) b)) from rfl);generalize Y9c k n a b=y at *;obtain⟨B,hB⟩:∃B,w.heap.size=B:=⟨_,rfl⟩;obtain⟨wA,hwA⟩:∃wA,w.alloc (.cells (Y2w a b) 73 (0,0))=wA:=⟨_,rfl⟩
 have hA:wA.heap[B]? =some (.cells (Y2w a b) 73 (0,0)):=by rw[←hwA,←hB];exact heap_alloc_new w _
 have hz:wA.heap.size=B+1:=by rw[←hwA,←hB];simp
 have HC:=Lib.hid (fun(x:World) (hx:Below (B+1) wA x)=>Y2x ((hx.block B (by omega)).trans hA));have hb:Below w.heap.size w wA:=by rw[←hwA];exact(Below.refl _ w).alloc (Nat.le_refl _) _
 have HE:=Lib.hid (fun(x:World) (hx:Below (B+1) wA x)=>(hb.trans (hx.mono (by omega)):Below w.heap.size w x));unfold Y2w at *;have HWA:=Lib.hid hwA;have HB:=Lib.hid hB;clear hA hz hb hwA hB;cases hc:Qgn k n with
 |false=>
  rw[hc] at c1 hq;clear hc
  go_enter Tryz.func84,Tryz.ntmps84
  go_wp2_with (first|(with_reducible refine(c1 _).mono ?_;rintro e w1 ⟨rfl,rfl⟩)|(with_reducible refine(c2 _).mono ?_;rintro e w1 ⟨rfl,rfl⟩))
  go_ret
  exact⟨Yan (by rw[hq.out];rfl),by rw[HWA.out];exact HE.out _ (Below.refl _ _)⟩
 |true=>
  rw[hc] at c1 hq;obtain⟨q0,q1⟩:=Qdx.1 hc;obtain⟨q,rfl⟩:∃q:Nat,n=(q:Int):=⟨n.toNat,by omega⟩;rw[Int.toNat_natCast] at hq q1;obtain⟨r1,r2,r3,z0,m1,m2,m3,m4⟩:=Qc9 q1;have C3:=Lib.hid (fun x (hx:Below (B+1) wA x)=>(Yrx (q%acr k) (acr k) a x (by omega) (by omega)).mono fun e y h=>(⟨h.1,h.2▸hx⟩:e=.returned (.bool (Yi8 (q%acr k) (acr k) a))∧Below (B+1) wA y))
  have C4:=Lib.hid (fun x (hx:Below (B+1) wA x)=>(Yrx (q / acr k) (dow k) b x (by omega) (by omega)).mono fun e y h=>(⟨h.1,h.2▸hx⟩:e=.returned (.bool (Yi8 (q / acr k) (dow k) b))∧Below (B+1) wA y));clear hc q1 q0;generalize q%acr k=u at *;generalize q / acr k=v at *;generalize acr k=A at *;generalize dow k=D at *;cases hx:Yi8 u A a with
  |false=>
   rw[hx] at C3 hq
   go_enter Tryz.func84,Tryz.ntmps84
   go_wp2_with (first|(with_reducible refine(c1 _).mono ?_;rintro e w1 ⟨rfl,rfl⟩)|(with_reducible refine(c2 _).mono ?_;rintro e w1 ⟨rfl,rfl⟩))
   rw[HWA.out,HB.out];refine Ya0 (S:=fun x=>Below (B+1) wA x) 17 (by kernel_rfl) (by kernel_rfl) (Below.refl _ _).drew ?_;simp only[List.take_succ_cons,List.take_zero,List.drop_succ_cons,List.drop_zero];refine Yaf (v:=?vp0) (by kernel_rfl) ?m ?_;(case m=>(intro x _;go_simp;try with_reducible rfl));simp only[Yaa]
   refine Yaf (v:=?vp1) (by kernel_rfl) ?m ?_;(case m=>(intro x _;go_simp;try with_reducible rfl));simp only[Yaa];refine Yaf (v:=?vp2) (by kernel_rfl) ?m ?_;(case m=>(intro x _;go_simp;rw[if_neg (by omega)]));simp only[Yaa];refine Yaf (v:=?vp3) (by kernel_rfl) ?m ?_;(case m=>(intro x _;go_simp;try with_reducible rfl));simp only[Yaa]
   refine Yaf (v:=?vp4) (by kernel_rfl) ?m ?_;(case m=>(intro x _;go_simp;try with_reducible rfl));simp only[Yaa];refine Ya7 3 _ ⟨B,0,none⟩ (.int .i64 a) (by kernel_rfl) rfl rfl (fun x hx=>by have c0:=(HC.out x hx).1;go_simp) ?_;simp only[Yaa];refine Ya9 (by kernel_rfl) C3.out (fun _=>by kernel_rfl) ?_;simp only[Yaa]
   refine Yaf (v:=?vp7) (by kernel_rfl) ?m ?_;(case m=>(intro x _;go_simp;try with_reducible rfl));simp only[Yaa];refine Yfb (by kernel_rfl) ?_;simp only[Yaa];refine Yfb (by kernel_rfl) ?_;simp only[Yaa];refine Yfb (by kernel_rfl) ?_;simp only[Yaa];refine Yfb (by kernel_rfl) ?_;simp only[Yaa];refine Yfb (by kernel_rfl) ?_;simp only[Yaa];refine Yfb (by kernel_rfl) ?_;simp only[Yaa]
   refine Yfb (by kernel_rfl) ?_;simp only[Yaa];refine Yaf (v:=?vp15) (by kernel_rfl) ?m ?_;(case m=>(intro x _;go_simp;try with_reducible rfl));simp only[Yaa];refine Yaf (v:=?vp16) (by kernel_rfl) ?m ?_;(case m=>(intro x _;go_simp;try with_reducible rfl));simp only[Yaa];refine Ych fun x hx=>?_
   go_wp2
   go_ret
   exact⟨Yan (by rw[hq.out];rfl),HE.out _ hx⟩
  |true=>
   rw[hx] at C3 hq
   go_enter Tryz.func84,Tryz.ntmps84
   go_wp2_with (first|(with_reducible refine(c1 _).mono ?_;rintro e w1 ⟨rfl,rfl⟩)|(with_reducible refine(c2 _).mono ?_;rintro e w1 ⟨rfl,rfl⟩))
   rw[HWA.out,HB.out];refine Ya0 (S:=fun x=>Below (B+1) wA x) 17 (by kernel_rfl) (by kernel_rfl) (Below.refl _ _).drew ?_;simp only[List.take_succ_cons,List.take_zero,List.drop_succ_cons,List.drop_zero];refine Yaf (v:=?vq0) (by kernel_rfl) ?m ?_;(case m=>(intro x _;go_simp;try with_reducible rfl));simp only[Yaa]
   refine Yaf (v:=?vq1) (by kernel_rfl) ?m ?_;(case m=>(intro x _;go_simp;try with_reducible rfl));simp only[Yaa];refine Yaf (v:=?vq2) (by kernel_rfl) ?m ?_;(case m=>(intro x _;go_simp;rw[if_neg (by omega)]));simp only[Yaa];refine Yaf (v:=?vq3) (by kernel_rfl) ?m ?_;(case m=>(intro x _;go_simp;try with_reducible rfl));simp only[Yaa]
   refine Yaf (v:=?vq4) (by kernel_rfl) ?m ?_;(case m=>(intro x _;go_simp;try with_reducible rfl));simp only[Yaa];refine Ya7 3 _ ⟨B,0,none⟩ (.int .i64 a) (by kernel_rfl) rfl rfl (fun x hx=>by have c0:=(HC.out x hx).1;go_simp) ?_;simp only[Yaa];refine Ya9 (by kernel_rfl) C3.out (fun _=>by kernel_rfl) ?_;simp only[Yaa]
   refine Yaf (v:=?vq7) (by kernel_rfl) ?m ?_;(case m=>(intro x _;go_simp;try with_reducible rfl));simp only[Yaa];refine Yaf (v:=?vq8) (by kernel_rfl) ?m ?_;(case m=>(intro x _;go_simp;try with_reducible rfl));simp only[Yaa];refine Yaf (v:=?vq9) (by kernel_rfl) ?m ?_;(case m=>(intro x _;go_simp;try with_reducible rfl));simp only[Yaa]
   refine Yaf (v:=?vq10) (by kernel_rfl) ?m ?_;(case m=>(intro x _;go_simp;rw[if_neg (by omega)]));simp only[Yaa];refine Yaf (v:=?vq11) (by kernel_rfl) ?m ?_;(case m=>(intro x _;go_simp;try with_reducible rfl));simp only[Yaa];refine Yaf (v:=?vq12) (by kernel_rfl) ?m ?_;(case m=>(intro x _;go_simp;try with_reducible rfl));simp only[Yaa]
   refine Ya7 3 _ ⟨B,1,none⟩ (.int .i64 b) (by kernel_rfl) rfl rfl (fun x hx=>by have c0:=(HC.out x hx).2;go_simp) ?_;simp only[Yaa];refine Ya9 (by kernel_rfl) C4.out (fun _=>by kernel_rfl) ?_;simp only[Yaa];refine Yaf (v:=?vq15) (by kernel_rfl) ?m ?_;(case m=>(intro x _;go_simp;try with_reducible rfl));simp only[Yaa]
   refine Yaf (v:=?vq16) (by kernel_rfl) ?m ?_;(case m=>(intro x _;go_simp;try with_reducible rfl));simp only[Yaa];refine Ych fun x hx=>?_
   go_wp2
   go_ret
   exact⟨Yan (by rw[hq.out];rfl),HE.out _ hx⟩
end Go.Proofs.YtjjmalchelniiaaGreatDoor