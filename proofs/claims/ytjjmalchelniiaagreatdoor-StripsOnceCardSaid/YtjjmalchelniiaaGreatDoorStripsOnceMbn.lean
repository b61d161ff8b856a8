/- Part 40 of StripsOnce. No condition. -/
import Derived.Test.YtjjmalchelniiaaGreatDoorStripsOnceMj
import Derived.Test.YtjjmalchelniiaaGreatDoorStripsOnceMk
import Derived.Test.YtjjmalchelniiaaGreatDoorStripsOnceMx
namespace Go.Proofs.YtjjmalchelniiaaGreatDoor
open Go.RowKit Go.Lib
theorem Yop (a b:Int)(w:World):Calls Tryz.prog 148 #[.agg #[.int .i64 a,.int .i64 b]] w fun e w'=>e=.returned (.bool (a==0&&b==0))∧Below w.heap.size w w':=by
 have E2:=Yx7 a b 0 0
 go_enter Tryz.func148,Tryz.ntmps148
 go_wp2
 go_ret
 exact⟨rfl,(Below.refl _ w).alloc (Nat.le_refl _) _⟩
theorem Yhr (c:Cel)(sl:Nat→Value):(Tryz.prog.info? 77).map (·.size)=some (Ybd c sl).toArray.size:=by kernel_rfl
theorem Yeq (c:Cel)(sl:Nat→Value):∃A:Array Value,(Ybd c sl).toArray=A∧A[0]? =some (.int .i64 c.stuff)∧A[1]? =some (.bool c.skip)∧A[2]? =some (.int .i64 c.kind)∧A[3]? =some (.int .i64 c.step)∧A[4]? =some (.int .i64 c.mx)∧A[5]? =some (.int .i64 c.my)∧
  (A[6]? =some (.int .i64 (c.dc 0))∧A[7]? =some (.int .i64 (c.dc 1))∧A[8]? =some (.int .i64 (c.dc 2))∧A[9]? =some (.int .i64 (c.dc 3))∧A[10]? =some (.int .i64 (c.dc 4))∧A[11]? =some (.int .i64 (c.dc 5)))∧
  (A[12]? =some (sl 0)∧A[13]? =some (sl 1)∧A[14]? =some (sl 2)∧A[15]? =some (sl 3)∧A[16]? =some (sl 4)∧A[17]? =some (sl 5)):=
 ⟨_,rfl,rfl,rfl,rfl,rfl,rfl,rfl,⟨rfl,rfl,rfl,rfl,rfl,rfl⟩,rfl,rfl,rfl,rfl,rfl,rfl⟩
theorem Yhy (c:Cel)(sl:Nat→Value)(w:World):Calls Tryz.prog 151 #[.agg (Ybd c sl).toArray] w fun e w'=>e=.returned (.bool (Yas c.kind))∧Below w.heap.size w w':=by
 obtain⟨A,hA,f0,f1,f2,f3,f4,f5,_,_⟩:=Yeq c sl;rw[hA];clear hA;have IK:Hid (Yas c.kind=(c.kind==3 || c.kind==4)):=Lib.hid rfl;generalize Yas c.kind=ik at IK ⊢;generalize c.kind=k at f2 IK;rcases Bool.eq_false_or_eq_true (k==3) with t0|t0
 ·go_enter Tryz.func151,Tryz.ntmps151
  go_wp2
  go_ret
  exact⟨Yan (by rw[IK.out,t0];rfl),(Below.refl _ w).alloc (Nat.le_refl _) _⟩
 ·go_enter Tryz.func151,Tryz.ntmps151
  go_wp2
  go_ret
  exact⟨Yan (by rw[IK.out,t0];rfl),(Below.refl _ w).alloc (Nat.le_refl _) _⟩
theorem Yqr (inter:Bool)(k:Int)(w:World):Calls Tryz.prog 116 #[.bool inter,.int .i64 k] w fun e w'=>e=.returned (.bool (Ykm inter k))∧w=w':=by
 have key:∀v:Bool,Ykm inter k=v→Calls Tryz.prog 116 #[.bool inter,.int .i64 k] w fun e w'=>e=.returned (.bool v)∧w=w':=by
  intro v hv;by_cases h0:k=0
  ·subst h0;cases inter <;> (subst hv;go_enter Tryz.func116,Tryz.ntmps116;go_wp2;go_ret;exact⟨rfl,rfl⟩)
  by_cases h1:k=1
  ·subst h1;cases inter <;> (subst hv;go_enter Tryz.func116,Tryz.ntmps116;go_wp2;go_ret;exact⟨rfl,rfl⟩)
  by_cases h3:k=3
  ·subst h3;cases inter <;> (subst hv;go_enter Tryz.func116,Tryz.ntmps116;go_wp2;go_ret;exact⟨rfl,rfl⟩)
  by_cases h4:k=4
  ·subst h4;cases inter <;> (subst hv;go_enter Tryz.func116,Tryz.ntmps116;go_wp2;go_ret;exact⟨rfl,rfl⟩)
  have hv2:v=false:=by rw[←hv];simp[Ykm,h0,h1,h3,h4]
  subst hv2;have t0:(k==0)=false:=by rw[beq_eq_false_iff_ne];exact h0
  have t1:(k==1)=false:=by rw[beq_eq_false_iff_ne];exact h1
  have t3:(k==3)=false:=by rw[beq_eq_false_iff_ne];exact h3
  have t4:(k==4)=false:=by rw[beq_eq_false_iff_ne];exact h4
  clear hv h0 h1 h3 h4
  go_enter Tryz.func116,Tryz.ntmps116
  go_wp2
  go_ret
  exact⟨rfl,rfl⟩
 exact key _ rfl
theorem Yt2 (a b:Int)(w:World):(Instr.index 73 (.agg #[.int .i64 a,.int .i64 b]) (.int .i64 0)).run Tryz.prog w=.ok (.int .i64 a) w∧(Instr.index 73 (.agg #[.int .i64 a,.int .i64 b]) (.int .i64 1)).run Tryz.prog w=.ok (.int .i64 b) w:=
 ⟨by kernel_rfl,by kernel_rfl⟩
theorem Y2y (w:World)(o1 o2:Obj):((w.alloc o1).alloc o2).heap[w.heap.size+1]? =some o2:=by simpa using heap_alloc_new (w.alloc o1) o2
set_option maxRecDepth 100000 in
theorem Yig (a b:Int)(w:World):Calls Tryz.prog 152 #[.agg #[.int .i64 a,.int .i64 b]] w fun e w'=>e=.returned (.agg #[.int .i64 (Yca a),.int .i64 (Yca b)])∧Below w.heap.size w w':=by
 have hw0:=fun x=>Ygr a x;have hw1:=fun x=>Ygr b x;have i0:=fun x=>(Yt2 a b x).1;have i1:=fun x=>(Yt2 a b x).2;generalize Yca a=u at hw0 ⊢;generalize Yca b=v at hw1 ⊢
 go_enter Tryz.func152,Tryz.ntmps152
 go_wp2
 go_loopw [6] (fun z wr=>(z=.int .i64 0∧wr=(w.alloc (.cells #[.int .i64 a,.int .i64 b] 73 (0,0))).alloc (.cells #[.int .i64 0,.int .i64 0] 73 (0,0)))∨(z=.int .i64 1∧wr=(w.alloc (.cells #[.int .i64 u,.int .i64 b] 73 (0,0))).alloc (.cells #[.int .i64 0,.int .i64 0] 73 (0,0)))∨(z=.int .i64 2∧wr=(w.alloc (.cells #[.int .i64 u,.int .i64 v] 73 (0,0))).alloc (.cells #[.int .i64 0,.int .i64 0] 73 (0,0)))) (fun z _=>2-(intOf z).toNat)
 case atStart=>exact .inl ⟨rfl,rfl⟩
 case round=>
  rcases hrel with ⟨rfl,rfl⟩|⟨rfl,rfl⟩|⟨rfl,rfl⟩
  ·go_wp2_with fail
   refine(hw0 _).mono ?_;rintro e w1 ⟨rfl,rfl⟩
   go_wp2
   go_roundw
   case rel=>exact .inr (.inl (by simp))
   case measure=>simp[intOf]
  ·go_wp2_with fail
   refine(hw1 _).mono ?_;rintro e w1 ⟨rfl,rfl⟩
   go_wp2
   go_roundw
   case rel=>exact .inr (.inr (by simp))
   case measure=>simp[intOf]
  ·go_wp2
   refine bodyPost_ret (results_cell_row rfl _ _ (w.heap.size+1) 73 _ (0,0) _ rfl (Y2y w _ _) Tryz.underlying73 rfl (by kernel_rfl)) rfl ?_;exact⟨rfl,((Below.refl _ w).alloc (Nat.le_refl _) _).alloc (by simp) _⟩
set_option maxRecDepth 100000 in
theorem Yob (a b x y:Int)(w:World)(ha:-32≤a∧a≤31)(hb:-32≤b∧b≤31):Calls Tryz.prog 187 #[.agg #[.int .i64 a,.int .i64 b],.agg #[.int .i64 x,.int .i64 y]] w fun e w'=>e=.returned (.agg #[.int .i64 (Yca (a-Yca x)),.int .i64 (Yca (b-Yca y))])∧Below w.heap.size w w':=by
 have hw:=fun z=>Yig x y z;have hf:=fun z=>Yig (a-Yca x) (b-Yca y) z;have i0:=fun z=>(Yt2 (Yca x) (Yca y) z).1;have i1:=fun z=>(Yt2 (Yca x) (Yca y) z).2;have s0:IntKind.i64.wrap (a-Yca x)=a-Yca x:=Yif (by have:=Y0x x;omega);have s1:IntKind.i64.wrap (b-Yca y)=b-Yca y:=Yif (by have:=Y0x y;omega);generalize Yca x=u at *;generalize Yca y=v at *;generalize Yca (a-u)=u' at *;generalize Yca (b-v)=v' at *
 clear ha hb;obtain⟨B,wA,wB,wC,hB,hwA,hwB,hwC,hzA,hzB,hzC,hC0,hC1,hC2,hbC⟩:=Qje w (.cells #[.int .i64 a,.int .i64 b] 73 (0,0)) (.cells #[.int .i64 x,.int .i64 y] 73 (0,0)) (.cells #[.int .i64 0,.int .i64 0] 73 (0,0));have HWA:=Lib.hid hwA;have HWB:=Lib.hid hwB;have HWC:=Lib.hid hwC;have HB:=Lib.hid hB;clear hwA hwB hwC hB
 go_enter Tryz.func187,Tryz.ntmps187
 go_wp2_with fail
 rw[HWA.out,HWB.out,HWC.out,HB.out];refine(hw _).mono ?_;rintro e w1 ⟨rfl,hb1⟩;rw[hzC] at hb1;have g0:=(hb1.block B (by omega)).trans hC0;have g2:=(hb1.block (B+2) (by omega)).trans hC2;have hb2:=hbC.trans (hb1.mono (by omega));have hz1:B+3≤w1.heap.size:=by have:=hb1.size;omega
 clear hb1 hC0 hC1 hC2 hbC hzA hzB hzC
 go_wp2
 go_loopw [9] (fun z wr=>∃a' b':Int,((z=.int .i64 0∧a'=a∧b'=b)∨(z=.int .i64 1∧a'=a-u∧b'=b)∨(z=.int .i64 2∧a'=a-u∧b'=b-v))∧wr.heap[B]? =some (.cells [.int .i64 a',.int .i64 b'].toArray 73 (0,0))∧wr.heap[B+2]? =some (.cells #[.int .i64 0,.int .i64 0] 73 (0,0))∧Below B w wr∧B+3≤wr.heap.size) (fun z _=>2-(intOf z).toNat)
 case atStart=>exact⟨a,b,.inl ⟨rfl,rfl,rfl⟩,g0,g2,hb2,hz1⟩
 case round=>
  clear g0 g2 hb2 hz1;obtain⟨a',b',⟨rfl,rfl,rfl⟩|⟨rfl,rfl,rfl⟩|⟨rfl,rfl,rfl⟩,g0,g2,hb,hz⟩:=hrel
  ·have c0:=Yab (o:=0) g0 rfl;have c1:=Yai (o:=0) g0;have n0:=Yau (o:=0) (.int .i64 (a'-u)) g0;have n2:=(Below.heap_setCell wr ⟨B,0,none⟩ (.int .i64 (a'-u)) (B+2) (by simp)).trans g2;have nb:=hb.setCell (p:=⟨B,0,none⟩) (Nat.le_refl _) (.int .i64 (a'-u))
   go_wp2
   go_roundw
   case rel=>exact⟨_,_,.inr (.inl ⟨rfl,rfl,rfl⟩),n0,n2,nb,by simpa using hz⟩
   case measure=>simp[intOf]
  ·have c0:=Yab (o:=1) g0 rfl;have c1:=Yai (o:=1) g0;have n0:=Yau (o:=1) (.int .i64 (b'-v)) g0;have n2:=(Below.heap_setCell wr ⟨B,1,none⟩ (.int .i64 (b'-v)) (B+2) (by simp)).trans g2;have nb:=hb.setCell (p:=⟨B,1,none⟩) (Nat.le_refl _) (.int .i64 (b'-v))
   go_wp2
   go_roundw
   case rel=>exact⟨_,_,.inr (.inr ⟨rfl,rfl,rfl⟩),n0,n2,nb,by simpa using hz⟩
   case measure=>simp[intOf]
  ·have c0:=Yab (o:=0) g0 rfl;have c1:=Yab (o:=1) g0 rfl
   go_wp2_with fail
   refine(hf _).mono ?_;rintro e w2 ⟨rfl,hb2⟩;have g3:w2.heap[B+1+1]? =some (.cells [.int .i64 0,.int .i64 0].toArray 73 (0,0)):=(hb2.block (B+2) (by omega)).trans g2;have e1:=Yau (o:=0) (.int .i64 u') g3;have e2:=Yau (o:=1) (.int .i64 v') e1;have d0:=Yab (o:=0) g3 rfl;have d1:=Yai (o:=0) g3;have d2:=Yab (o:=1) e1 rfl;have d3:=Yai (o:=1) e1
   have hb3:=((hb.trans (hb2.mono (by omega))).setCell (p:=⟨B+1+1,0,none⟩) (by show B≤B+1+1;omega) (.int .i64 u')).setCell (p:=⟨B+1+1,1,none⟩) (by show B≤B+1+1;omega) (.int .i64 v');clear g0 c0 c1 hb2
   go_wp2
   refine bodyPost_ret (results_cell_row rfl _ _ (B+1+1) 73 _ (0,0) _ rfl e2 Tryz.underlying73 rfl (by kernel_rfl)) rfl ?_;exact⟨rfl,by rw[HB.out];exact hb3⟩
theorem Y2l (f:Nat→Value)(w:World):∀i:Nat,i<6→(Instr.index 75 (.agg #[f 0,f 1,f 2,f 3,f 4,f 5]) (.int .i64 (i:Nat))).run Tryz.prog w=.ok (f i) w
 |0,_=>by kernel_rfl
 |1,_=>by kernel_rfl
 |2,_=>by kernel_rfl
 |3,_=>by kernel_rfl
 |4,_=>by kernel_rfl
 |5,_=>by kernel_rfl
theorem Y7w (c:Cel):∀i,Yfw c i<2^i
 |0=>Nat.one_pos
 |i+1=>by
  have h1:=Y7w c i;have h2:=Yzl c i;show 2*Yfw c i+Yqk c i<2^(i+1);rw[Nat.pow_succ];omega
theorem Qik:∀m,m<64→wrap64 (((m:Nat):Int)*2)=((2*m:Nat):Int)∧bits .or .i64 (wrap64 (((m:Nat):Int)*2)) 1=((2*m+1:Nat):Int):=by decide +kernel
set_option maxRecDepth 100000 in
theorem Yvs (c:Cel)(p:Nat→Option Addr)(n k:Nat→Nat)(w:World)(hc:Ymt w c p n):Calls Tryz.prog 149 #[.agg (Ybd c fun i=>.slice (p i) (n i) (k i)).toArray] w fun e w'=>e=.returned (.int .i64 (Yfw c 6:Nat))∧Below w.heap.size w w':=by
 obtain⟨A,hA,-,-,-,-,-,-,-,f12,f13,f14,f15,f16,f17⟩:=Yeq c fun i=>.slice (p i) (n i) (k i);rw[hA];clear hA
 go_enter Tryz.func149,Tryz.ntmps149
 go_wp2
 go_loopw [3,8] (fun t z wr=>∃i:Nat,i≤6∧z=.int .i64 i∧t=.int .i64 (Yfw c i:Nat)∧Below w.heap.size w wr) (fun _ z _=>6-(intOf z).toNat)
 case atStart=>exact⟨0,by omega,rfl,rfl,(Below.refl _ w).alloc (Nat.le_refl _) _⟩
 case round=>
  obtain⟨i,hi6,rfl,rfl,hb⟩:=hrel;by_cases hlt:i<6
  ·have t0:decide ((i:Int)<6)=true:=by simp;omega
   have h1:(decide (0<n i)).toNat=Yqk c i:=by unfold Yqk;rw[(hc i hlt).1]
   have i0:=fun x=>Y2l (fun i=>.slice (p i) (n i) (k i)) x i hlt;clear hc;obtain⟨q1,q2⟩:=Qik (Yfw c i) (by
    have h2:=Y7w c i;have h3:2^i≤2^6:=Nat.pow_le_pow_right (by decide) hi6;omega)
   have Q1:=Lib.hid q1;have Q2:=Lib.hid q2;have N:=Lib.hid (show Yfw c (i+1)=2*Yfw c i+Yqk c i from rfl);clear q1 q2;by_cases h0:0<n i
   ·have t1:decide (0<n i)=true:=by simpa using h0
    have t2:decide (0<(n i:Int))=true:=by simpa using h0
    have H:=Lib.hid (show Yqk c i=1 by rw[←h1,t1];rfl);clear h0 h1
    go_wp2
    go_roundw
    case rel=>exact⟨i+1,by omega,by go_num,by rw[Q2.out,N.out,H.out],hb⟩
    case measure=>simp[intOf];omega
   ·have t1:decide (0<n i)=false:=by simpa using h0
    have t2:decide (0<(n i:Int))=false:=by simpa using h0
    have H:=Lib.hid (show Yqk c i=0 by rw[←h1,t1];rfl);clear h0 h1
    go_wp2
    go_roundw
    case rel=>exact⟨i+1,by omega,by go_num,by rw[Q1.out,N.out,H.out];rfl,hb⟩
    case measure=>simp[intOf];omega
  ·obtain rfl:i=6:=by omega
   go_wp2
   go_ret
   exact⟨rfl,hb⟩
theorem Qdd (c:Cel):(((Yfw c 6:Nat):Int)==0)=(List.range 6).all fun i=>decide ((c.ev i).length=0):=by
 have h:∀i,Yqk c i=if (c.ev i).length=0 then 0 else 1:=by
  intro i;unfold Yqk;by_cases h:(c.ev i).length=0
  ·rw[if_pos h,decide_eq_false (by omega)];rfl
  ·rw[if_neg h,decide_eq_true (by omega)];rfl
 have h0:=h 0;have h1:=h 1;have h2:=h 2;have h3:=h 3;have h4:=h 4;have h5:=h 5;rw[Bool.eq_iff_iff,beq_iff_eq,List.all_eq_true,Ytb,Ynb];unfold Ykd;constructor
 ·intro hz i hi;rw[decide_eq_true_iff];have hi:=List.mem_range.1 hi;rcases (by omega:i=0∨i=1∨i=2∨i=3∨i=4∨i=5) with rfl|rfl|rfl|rfl|rfl|rfl
  all_goals
   refine Decidable.byContradiction fun hn=>?_
   first
    |(rw[if_neg hn] at h0;omega)
    |(rw[if_neg hn] at h1;omega)
    |(rw[if_neg hn] at h2;omega)
    |(rw[if_neg hn] at h3;omega)
    |(rw[if_neg hn] at h4;omega)
    |(rw[if_neg hn] at h5;omega)
 ·intro hz;have hz:=fun i hi=>of_decide_eq_true (hz i (List.mem_range.2 hi));rw[if_pos (hz 0 (by omega))] at h0;rw[if_pos (hz 1 (by omega))] at h1;rw[if_pos (hz 2 (by omega))] at h2;rw[if_pos (hz 3 (by omega))] at h3;rw[if_pos (hz 4 (by omega))] at h4;rw[if_pos (hz 5 (by omega))] at h5;omega
theorem Yhq (w:World){c:Cel}{sl:Nat→Value}{A:Array Value}(hA:(Ybd c sl).toArray=A):∃(R:Nat) (w0:World),w.heap.size=R∧w.alloc (.cells A 77 (0,0))=w0∧w0.heap.size=R+1∧Below R w w0∧(Tryz.prog.info? 77).map (·.size)=some A.size∧
  (∀x,Below (R+1) w0 x→x.heap[R]? =some (.cells A 77 (0,0))∧x.heap[R]? =some (.cells (Ybd c sl).toArray 77 (0,0))):=by
 subst hA;refine⟨_,_,rfl,rfl,by simp,(Below.refl _ w).alloc (Nat.le_refl _) _,Yhr c sl,fun x hx=>?_⟩;have h:=(hx.block w.heap.size (by omega)).trans (heap_alloc_new w (.cells (Ybd c sl).toArray 77 (0,0)));exact⟨h,h⟩
theorem Qhf {x:World}{R:Nat}{c:Cel}{sl:Nat→Value}(h:x.heap[R]? =some (.cells (Ybd c sl).toArray 77 (0,0))):x.cell? ⟨R,6,none⟩=some (.int .i64 (c.dc 0))∧x.cell? ⟨R,7,none⟩=some (.int .i64 (c.dc 1))∧x.cell? ⟨R,8,none⟩=some (.int .i64 (c.dc 2))∧x.cell? ⟨R,9,none⟩=some (.int .i64 (c.dc 3))∧x.cell? ⟨R,10,none⟩=some (.int .i64 (c.dc 4))∧x.cell? ⟨R,11,none⟩=some (.int .i64 (c.dc 5)):=
 ⟨Yab h rfl,Yab h rfl,Yab h rfl,Yab h rfl,Yab h rfl,Yab h rfl⟩
theorem Ylg {x:World}{R:Nat}{c:Cel}{sl:Nat→Value}(h:x.heap[R]? =some (.cells (Ybd c sl).toArray 77 (0,0))):x.cell? ⟨R,0,none⟩=some (.int .i64 c.stuff)∧x.cell? ⟨R,1,none⟩=some (.bool c.skip)∧x.cell? ⟨R,2,none⟩=some (.int .i64 c.kind)∧x.cell? ⟨R,3,none⟩=some (.int .i64 c.step)∧x.cell? ⟨R,4,none⟩=some (.int .i64 c.mx)∧x.cell? ⟨R,5,none⟩=some (.int .i64 c.my):=
 ⟨Yab h rfl,Yab h rfl,Yab h rfl,Yab h rfl,Yab h rfl,Yab h rfl⟩
set_option maxRecDepth 100000 in
theorem Yzs (c:Cel)(p:Nat→Option Addr)(n k:Nat→Nat)(w:World)(hc:Ymt w c p n):Calls Tryz.prog 115 #[.agg (Ybd c fun i=>.slice (p i) (n i) (k i)).toArray] w fun e w'=>e=.returned (.bool (Yp7 c))∧Below w.heap.size w w':=by
 have hcod:=fun x (hx:Below w.heap.size w x)=>Yvs c p n k x (hc.below hx);have hnon:=fun x=>Yop c.mx c.my x;have E6:=Qa2 c.dc fun _=>0;have ZC:Hid (Yp7 c=((c.kind==0&&c.step==0&&(c.mx==0&&c.my==0))&&((List.range 6).all (fun i=>c.dc i==0)&&(((Yfw c 6:Nat):Int)==0)))):=Lib.hid (by rw[Qdd];rfl);obtain⟨A,hA,f0,f1,f2,f3,f4,f5,-,-⟩:=Yeq c fun i=>.slice (p i) (n i) (k i)
 obtain⟨R,w0,hR,hw0,hz0,hb0,HSZ,hbx⟩:=Yhq w hA;simp only[hA] at hcod;have HBX:=Lib.hid hbx;rw[hA];rw[hR] at hcod;have HW:=Lib.hid hw0;have HR:=Lib.hid hR;have H1:=Lib.hid hcod;clear hA hc hcod hw0 hbx hR;generalize Yp7 c=z at *;generalize (c.mx==0&&c.my==0)=mvb at *;generalize ((List.range 6).all fun i=>c.dc i==0)=dcb at *;generalize ((Yfw c 6:Nat):Int)=cd at *;generalize c.kind=kd at *
 generalize c.step=sp at *;cases t0:(kd==0) with
 |false=>
  rw[t0] at ZC
  go_enter Tryz.func115,Tryz.ntmps115
  go_wp2
  go_ret
  exact⟨Yan (by rw[ZC.out];rfl),by rw[HW.out,HR.out];exact hb0⟩
 |true=>
  cases t1:(sp==0) with
  |false=>
   rw[t0,t1] at ZC
   go_enter Tryz.func115,Tryz.ntmps115
   go_wp2
   go_ret
   exact⟨Yan (by rw[ZC.out];rfl),by rw[HW.out,HR.out];exact hb0⟩
  |true=>
   rw[t0,t1] at ZC
   go_enter Tryz.func115,Tryz.ntmps115
   go_wp2_with fail
   rw[HW.out,HR.out];refine(hnon _).mono ?_;rintro e w1 ⟨rfl,hb1⟩;rw[hz0] at hb1;obtain⟨g1,g2⟩:=HBX.out w1 hb1;obtain⟨d0,d1,d2,d3,d4,d5⟩:=Qhf g2;have hz1:=hb1.size;have hb2:=hb0.trans (hb1.mono (by omega));cases mvb with
   |false=>
    go_wp2
    go_ret
    exact⟨Yan (by rw[ZC.out];rfl),by rw[HR.out];exact hb2⟩
   |true=>
    cases dcb with
    |false=>
     go_wp2
     go_ret
     exact⟨Yan (by rw[ZC.out];rfl),by rw[HR.out];exact hb2⟩
    |true=>
     go_wp2_with (with_reducible refine Yb6 (by kernel_rfl) 77 _ rfl R rfl 77 A (0,0) _ g1 Tryz.underlying77 rfl HSZ ?_)
     refine(H1.out _ hb2).mono ?_;rintro e w2 ⟨rfl,hb3⟩;have hb4:=hb2.trans (hb3.mono (by omega))
     go_wp2
     go_ret
     exact⟨Yan (by rw[ZC.out];rfl),by rw[HR.out];exact hb4⟩
end Go.Proofs.YtjjmalchelniiaaGreatDoor