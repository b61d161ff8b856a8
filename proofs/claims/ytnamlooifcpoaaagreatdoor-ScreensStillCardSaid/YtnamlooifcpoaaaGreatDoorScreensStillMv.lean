/- No condition. -/
import Derived.Test.YtnamlooifcpoaaaGreatDoorScreensStillMb
import Derived.Test.YtnamlooifcpoaaaGreatDoorScreensStillMh
import Derived.Test.YtnamlooifcpoaaaGreatDoorScreensStillMo
import Derived.Test.YtnamlooifcpoaaaGreatDoorScreensStillMr
import Derived.Test.YtnamlooifcpoaaaGreatDoorScreensStillMs
import Derived.Test.YtnamlooifcpoaaaGreatDoorScreensStillMu
namespace Go.Proofs.YtnamlooifcpoaaaGreatDoor
open Go.RowKit Go.Lib
def Yss (k:Int):Int:=if Ya3 k then 1 else 0
def Ywc (c:Cel)(b:Nat):Nat→Int:=Ys1 (lvG (c.ev b) (Yss c.kind)).1
def Yrn (c:Cel)(q:Int)(b:Nat):Nat→Int:=Yx5 (Ywc c b) q (Ya3 c.kind) (c.dc b)
def Yik (c:Cel)(q:Int)(b:Nat):Nat→Int:=Ysu (Yrn c q b)
def ptF (F:Nat→Nat→Int)(s:Nat):Int:=F (s / 64) (s%64)
def Ytd (F G:Nat→Nat→Int)(b:Nat)(s:Nat):Int:=if s<64*b then ptF F s else ptF G s
def Yw0 (F:Nat→Nat→Int)(c:Cel):(Nat→Int)×Int:=if Ybb true c then (ptF F,0) else (fun _=>0,12)
theorem Ywh (F G:Nat→Nat→Int):Ytd F G 0=ptF G:=by
 funext s
 unfold Ytd;rw[if_neg (by omega)]
theorem Yy5 (F G:Nat→Nat→Int):arn 384 (Ytd F G 6)=arn 384 (ptF F):=Ybo fun s hs=>by
 unfold Ytd;rw[if_pos (by omega)]
theorem Ywg {F G:Nat→Nat→Int}{h:Nat→Int}{b:Nat}(hh:∀i,i<64→h i=F b i):arn 384 (Yx2 (Ytd F G b) h (64*b))=arn 384 (Ytd F G (b+1)):=by
 refine Ybo fun s _=>?_;unfold Yx2 Ytd ptF;by_cases h1:64*b≤s∧s<64*b+64
 ·rw[if_pos h1,if_pos (by omega),hh _ (by omega),show s / 64=b by omega,show s%64=s-64*b by omega]
 ·rw[if_neg h1];by_cases h2:s<64*b
  ·rw[if_pos h2,if_pos (by omega)]
  ·rw[if_neg h2,if_neg (by omega)]
theorem Ywq:ptF (fun _ _=>0)=fun _=>0:=rfl
theorem Ytk:Ynr 0=fun _=>0:=by
 funext i
 unfold Ynr
 split <;> rfl
theorem Yoz {f:Nat→Int}(h:∀i,i<64→f i=0):∀p,p<64→Ysu f p=0:=by
 intro p hp;have h1:=Yi0 (k:=kI) (lo:=-256) (hi:=255) (f:=f) (g:=Ynr 0) (fun i hi=>by rw[h i hi,Ytk]) p hp;have h2:=Ysx 0 p hp;show Yzx kI (-256) 255 f p=0;rw[h1];exact h2
def Yvm (c:Cel):Prop:=Ya3 c.kind=false∧∀i,i<6→c.ev i=[]
theorem Yxt (q:Int):Yu4 0 q=0:=by
 have h:=Yxs 0 q;omega
theorem Ywd {c:Cel}(h:Yvm c){b:Nat}(hb:b<6):∀i,i<64→Ywc c b i=0:=by
 intro i _;unfold Ywc Yss;rw[h.1,h.2 b hb]
 rfl
theorem Yxu {c:Cel}(h:Yvm c)(q:Int){b:Nat}(hb:b<6):∀i,i<64→Yrn c q b i=0:=by
 intro i hi;unfold Yrn Yx5;rw[if_neg (by rw[h.1];simp),Ywd h hb i hi];exact Yxt q
theorem Yxd {c:Cel}(h:Yvm c)(q:Int){b:Nat}(hb:b<6):∀i,i<64→Yik c q b i=0:=Yoz (Yxu h q hb)
def Yev (n:Int):Cel:={Yzv with stuff:=n%64,skip:=true}
theorem Yxc (n:Int):Yvm (Yev n):=⟨rfl,fun _ _=>rfl⟩
theorem Yux (n:Int):Ybb true (Yev n)=true:=by
 have h1:Yip (Yev n)=true:=by
  rw[show Yip (Yev n)=Yip Yzv from rfl]
  decide
 unfold Ybb;rw[h1,show (Yev n).skip=true from rfl,show (Yev n).stuff=n%64 from rfl,decide_eq_true (show 0≤n%64 by omega),decide_eq_true (show n%64≤64 by omega)]
 rfl
section
variable {P:Program}{op:Oper}{a:Act}{w:World}{Q:Exit→Act→World→Prop}
theorem Ym2 {ops:Array Oper}{rest:List Oper}(hgd:op.guard=none)(ty:TypeId)(x y:Operand)(ho:op.op=.store ty x y)
  (B b o:Nat)(hO:o=64*b)(T:TypeId)(F G:Nat→Nat→Int)(h:Nat→Int)(Z:Array Value)(hZ:Ya7 h=Z)(hx:a.eval x=.pointer (some ⟨B,o,none⟩))(hy:a.eval y=.agg Z)(hg:w.heap[B]? =some (Ydn T 384 (Ytd F G b)))(hb:b<6)(hh:∀i,i<64→h i=F b i)
  (hi:(P.info? ty).map (·.size)=some Z.size)
  (hk:∀w',Hid (w'.heap[B]? =some (Ydn T 384 (Ytd F G (b+1))))→w.grownBy w' (some B)→wpList P ops Q rest (a.put op.dst undef) w'):wpList P ops Q (op::rest) a w:=by
 subst hZ hO;refine Yb1 hgd ty x y ho B (64*b) (Ya7 h) hx hy _ T hg hi (fun v hv=>(Array.all_eq_true_iff_forall_mem.1 (Ybd h)) v (by simpa using hv)) (by rw[Yam,Yar];omega) fun w' h1 h2=>?_;refine hk w' (Lib.hid ?_) h2;have:=h1.out;rw[Yam,Yj1 384 (64*b) _ _ (by omega),Ywg hh] at this;exact this
end
theorem Yhj (a b:Int)(w:World):Calls Tryz.prog 144 #[.agg #[.int .i64 a,.int .i64 b]] w fun e w'=>e=.returned (.bool (a==0&&b==0))∧Below w.heap.size w w':=by
 have E2:=Ymz a b 0 0
 go_enter Tryz.func144,Tryz.ntmps144
 go_wp2
 go_ret
 exact⟨rfl,(Below.refl _ w).alloc (Nat.le_refl _) _⟩
theorem Yfr (c:Cel)(sl:Nat→Value):(Tryz.prog.info? 48).map (·.size)=some (Ybp c sl).toArray.size:=by kernel_rfl
theorem Yc2 (c:Cel)(sl:Nat→Value):∃A:Array Value,(Ybp c sl).toArray=A∧A[0]? =some (.int .i64 c.stuff)∧A[1]? =some (.bool c.skip)∧A[2]? =some (.int .i64 c.kind)∧A[3]? =some (.int .i64 c.step)∧A[4]? =some (.int .i64 c.mx)∧A[5]? =some (.int .i64 c.my)∧
  (A[6]? =some (.int .i64 (c.dc 0))∧A[7]? =some (.int .i64 (c.dc 1))∧A[8]? =some (.int .i64 (c.dc 2))∧A[9]? =some (.int .i64 (c.dc 3))∧A[10]? =some (.int .i64 (c.dc 4))∧A[11]? =some (.int .i64 (c.dc 5)))∧
  (A[12]? =some (sl 0)∧A[13]? =some (sl 1)∧A[14]? =some (sl 2)∧A[15]? =some (sl 3)∧A[16]? =some (sl 4)∧A[17]? =some (sl 5)):=
 ⟨_,rfl,rfl,rfl,rfl,rfl,rfl,rfl,⟨rfl,rfl,rfl,rfl,rfl,rfl⟩,rfl,rfl,rfl,rfl,rfl,rfl⟩
theorem Ygn (c:Cel)(sl:Nat→Value)(w:World):Calls Tryz.prog 147 #[.agg (Ybp c sl).toArray] w fun e w'=>e=.returned (.bool (Ya3 c.kind))∧Below w.heap.size w w':=by
 obtain⟨A,hA,f0,f1,f2,f3,f4,f5,_,_⟩:=Yc2 c sl;rw[hA];clear hA;have IK:Hid (Ya3 c.kind=(c.kind==3 || c.kind==4)):=Lib.hid rfl;generalize Ya3 c.kind=ik at IK ⊢;generalize c.kind=k at f2 IK;rcases Bool.eq_false_or_eq_true (k==3) with t0|t0
 ·go_enter Tryz.func147,Tryz.ntmps147
  go_wp2
  go_ret
  exact⟨Yae (by rw[IK.out,t0];rfl),(Below.refl _ w).alloc (Nat.le_refl _) _⟩
 ·go_enter Tryz.func147,Tryz.ntmps147
  go_wp2
  go_ret
  exact⟨Yae (by rw[IK.out,t0];rfl),(Below.refl _ w).alloc (Nat.le_refl _) _⟩
theorem Yii (inter:Bool)(k:Int)(w:World):Calls Tryz.prog 119 #[.bool inter,.int .i64 k] w fun e w'=>e=.returned (.bool (Yib inter k))∧w=w':=by
 have key:∀v:Bool,Yib inter k=v→Calls Tryz.prog 119 #[.bool inter,.int .i64 k] w fun e w'=>e=.returned (.bool v)∧w=w':=by
  intro v hv;by_cases h0:k=0
  ·subst h0;cases inter <;> (subst hv;go_enter Tryz.func119,Tryz.ntmps119;go_wp2;go_ret;exact⟨rfl,rfl⟩)
  by_cases h1:k=1
  ·subst h1;cases inter <;> (subst hv;go_enter Tryz.func119,Tryz.ntmps119;go_wp2;go_ret;exact⟨rfl,rfl⟩)
  by_cases h3:k=3
  ·subst h3;cases inter <;> (subst hv;go_enter Tryz.func119,Tryz.ntmps119;go_wp2;go_ret;exact⟨rfl,rfl⟩)
  by_cases h4:k=4
  ·subst h4;cases inter <;> (subst hv;go_enter Tryz.func119,Tryz.ntmps119;go_wp2;go_ret;exact⟨rfl,rfl⟩)
  have hv2:v=false:=by rw[←hv];simp[Yib,h0,h1,h3,h4]
  subst hv2;have t0:(k==0)=false:=by rw[beq_eq_false_iff_ne];exact h0
  have t1:(k==1)=false:=by rw[beq_eq_false_iff_ne];exact h1
  have t3:(k==3)=false:=by rw[beq_eq_false_iff_ne];exact h3
  have t4:(k==4)=false:=by rw[beq_eq_false_iff_ne];exact h4
  clear hv h0 h1 h3 h4
  go_enter Tryz.func119,Tryz.ntmps119
  go_wp2
  go_ret
  exact⟨rfl,rfl⟩
 exact key _ rfl
theorem Ytp (a b:Int)(w:World):(Instr.index 43 (.agg #[.int .i64 a,.int .i64 b]) (.int .i64 0)).run Tryz.prog w=.ok (.int .i64 a) w∧(Instr.index 43 (.agg #[.int .i64 a,.int .i64 b]) (.int .i64 1)).run Tryz.prog w=.ok (.int .i64 b) w:=
 ⟨by kernel_rfl,by kernel_rfl⟩
theorem Yxo (w:World)(o1 o2:Obj):((w.alloc o1).alloc o2).heap[w.heap.size+1]? =some o2:=by simpa using heap_alloc_new (w.alloc o1) o2
set_option maxRecDepth 100000 in
theorem Ym4 (a b:Int)(w:World):Calls Tryz.prog 148 #[.agg #[.int .i64 a,.int .i64 b]] w fun e w'=>e=.returned (.agg #[.int .i64 (Ym8 a),.int .i64 (Ym8 b)])∧Below w.heap.size w w':=by
 have hw0:=fun x=>Ym3 a x;have hw1:=fun x=>Ym3 b x;have i0:=fun x=>(Ytp a b x).1;have i1:=fun x=>(Ytp a b x).2;generalize Ym8 a=u at hw0 ⊢;generalize Ym8 b=v at hw1 ⊢
 go_enter Tryz.func148,Tryz.ntmps148
 go_wp2
 go_loopw [6] (fun z wr=>(z=.int .i64 0∧wr=(w.alloc (.cells #[.int .i64 a,.int .i64 b] 43 (0,0))).alloc (.cells #[.int .i64 0,.int .i64 0] 43 (0,0)))∨(z=.int .i64 1∧wr=(w.alloc (.cells #[.int .i64 u,.int .i64 b] 43 (0,0))).alloc (.cells #[.int .i64 0,.int .i64 0] 43 (0,0)))∨(z=.int .i64 2∧wr=(w.alloc (.cells #[.int .i64 u,.int .i64 v] 43 (0,0))).alloc (.cells #[.int .i64 0,.int .i64 0] 43 (0,0)))) (fun z _=>2-(intOf z).toNat)
 case atStart=>exact .inl ⟨rfl,rfl⟩
 case round=>
  rcases hrel with ⟨rfl,rfl⟩|⟨rfl,rfl⟩|⟨rfl,rfl⟩
  ·go_wp2_with fail
   refine(hw0 _).mono ?_;rintro e w1 ⟨rfl,rfl⟩
   go_wp2
   go_roundw
   case rel=>exact .inr (.inl (by simp))
   case measure=>simp[intOf]
  ·go_wp2_with fail
   refine(hw1 _).mono ?_;rintro e w1 ⟨rfl,rfl⟩
   go_wp2
   go_roundw
   case rel=>exact .inr (.inr (by simp))
   case measure=>simp[intOf]
  ·go_wp2
   refine bodyPost_ret (results_cell_row rfl _ _ (w.heap.size+1) 43 _ (0,0) _ rfl (Yxo w _ _) Tryz.underlying43 rfl (by kernel_rfl)) rfl ?_;exact⟨rfl,((Below.refl _ w).alloc (Nat.le_refl _) _).alloc (by simp) _⟩
theorem Ypb (f:Nat→Value)(w:World):∀i:Nat,i<6→(Instr.index 46 (.agg #[f 0,f 1,f 2,f 3,f 4,f 5]) (.int .i64 (i:Nat))).run Tryz.prog w=.ok (f i) w
 |0,_=>by kernel_rfl
 |1,_=>by kernel_rfl
 |2,_=>by kernel_rfl
 |3,_=>by kernel_rfl
 |4,_=>by kernel_rfl
 |5,_=>by kernel_rfl
theorem Ysg (c:Cel):∀i,Ym5 c i<2^i
 |0=>Nat.one_pos
 |i+1=>by
  have h1:=Ysg c i;have h2:=Yyu c i;show 2*Ym5 c i+Ylv c i<2^(i+1);rw[Nat.pow_succ];omega
theorem Yzk:∀m,m<64→wrap64 (((m:Nat):Int)*2)=((2*m:Nat):Int)∧bits .or .i64 (wrap64 (((m:Nat):Int)*2)) 1=((2*m+1:Nat):Int):=by decide +kernel
set_option maxRecDepth 100000 in
theorem Ysi (c:Cel)(p:Nat→Option Addr)(n k:Nat→Nat)(w:World)(hc:Yeb w c p n):Calls Tryz.prog 145 #[.agg (Ybp c fun i=>.slice (p i) (n i) (k i)).toArray] w fun e w'=>e=.returned (.int .i64 (Ym5 c 6:Nat))∧Below w.heap.size w w':=by
 obtain⟨A,hA,-,-,-,-,-,-,-,f12,f13,f14,f15,f16,f17⟩:=Yc2 c fun i=>.slice (p i) (n i) (k i);rw[hA];clear hA
 go_enter Tryz.func145,Tryz.ntmps145
 go_wp2
 go_loopw [3,8] (fun t z wr=>∃i:Nat,i≤6∧z=.int .i64 i∧t=.int .i64 (Ym5 c i:Nat)∧Below w.heap.size w wr) (fun _ z _=>6-(intOf z).toNat)
 case atStart=>exact⟨0,by omega,rfl,rfl,(Below.refl _ w).alloc (Nat.le_refl _) _⟩
 case round=>
  obtain⟨i,hi6,rfl,rfl,hb⟩:=hrel;by_cases hlt:i<6
  ·have t0:decide ((i:Int)<6)=true:=by simp;omega
   have h1:(decide (0<n i)).toNat=Ylv c i:=by unfold Ylv;rw[(hc i hlt).1]
   have i0:=fun x=>Ypb (fun i=>.slice (p i) (n i) (k i)) x i hlt;clear hc;obtain⟨q1,q2⟩:=Yzk (Ym5 c i) (by
    have h2:=Ysg c i;have h3:2^i≤2^6:=Nat.pow_le_pow_right (by decide) hi6;omega)
   have Q1:=Lib.hid q1;have Q2:=Lib.hid q2;have N:=Lib.hid (show Ym5 c (i+1)=2*Ym5 c i+Ylv c i from rfl);clear q1 q2;by_cases h0:0<n i
   ·have t1:decide (0<n i)=true:=by simpa using h0
    have t2:decide (0<(n i:Int))=true:=by simpa using h0
    have H:=Lib.hid (show Ylv c i=1 by rw[←h1,t1];rfl);clear h0 h1
    go_wp2
    go_roundw
    case rel=>exact⟨i+1,by omega,by go_num,by rw[Q2.out,N.out,H.out],hb⟩
    case measure=>simp[intOf];omega
   ·have t1:decide (0<n i)=false:=by simpa using h0
    have t2:decide (0<(n i:Int))=false:=by simpa using h0
    have H:=Lib.hid (show Ylv c i=0 by rw[←h1,t1];rfl);clear h0 h1
    go_wp2
    go_roundw
    case rel=>exact⟨i+1,by omega,by go_num,by rw[Q1.out,N.out,H.out];rfl,hb⟩
    case measure=>simp[intOf];omega
  ·obtain rfl:i=6:=by omega
   go_wp2
   go_ret
   exact⟨rfl,hb⟩
theorem Yvx (c:Cel):(((Ym5 c 6:Nat):Int)==0)=(List.range 6).all fun i=>decide ((c.ev i).length=0):=by
 have h:∀i,Ylv c i=if (c.ev i).length=0 then 0 else 1:=by
  intro i;unfold Ylv;by_cases h:(c.ev i).length=0
  ·rw[if_pos h,decide_eq_false (by omega)];rfl
  ·rw[if_neg h,decide_eq_true (by omega)];rfl
 have h0:=h 0;have h1:=h 1;have h2:=h 2;have h3:=h 3;have h4:=h 4;have h5:=h 5;rw[Bool.eq_iff_iff,beq_iff_eq,List.all_eq_true,Yyk,Yvw];unfold Y0m;constructor
 ·intro hz i hi;rw[decide_eq_true_iff];have hi:=List.mem_range.1 hi;rcases (by omega:i=0∨i=1∨i=2∨i=3∨i=4∨i=5) with rfl|rfl|rfl|rfl|rfl|rfl
  all_goals
   refine Decidable.byContradiction fun hn=>?_
   first
    |(rw[if_neg hn] at h0;omega)
    |(rw[if_neg hn] at h1;omega)
    |(rw[if_neg hn] at h2;omega)
    |(rw[if_neg hn] at h3;omega)
    |(rw[if_neg hn] at h4;omega)
    |(rw[if_neg hn] at h5;omega)
 ·intro hz;have hz:=fun i hi=>of_decide_eq_true (hz i (List.mem_range.2 hi));rw[if_pos (hz 0 (by omega))] at h0;rw[if_pos (hz 1 (by omega))] at h1;rw[if_pos (hz 2 (by omega))] at h2;rw[if_pos (hz 3 (by omega))] at h3;rw[if_pos (hz 4 (by omega))] at h4;rw[if_pos (hz 5 (by omega))] at h5;omega
theorem Yee (w:World){c:Cel}{sl:Nat→Value}{A:Array Value}(hA:(Ybp c sl).toArray=A):∃(R:Nat) (w0:World),w.heap.size=R∧w.alloc (.cells A 48 (0,0))=w0∧w0.heap.size=R+1∧Below R w w0∧(Tryz.prog.info? 48).map (·.size)=some A.size∧
  (∀x,Below (R+1) w0 x→x.heap[R]? =some (.cells A 48 (0,0))∧x.heap[R]? =some (.cells (Ybp c sl).toArray 48 (0,0))):=by
 subst hA;refine⟨_,_,rfl,rfl,by simp,(Below.refl _ w).alloc (Nat.le_refl _) _,Yfr c sl,fun x hx=>?_⟩;have h:=(hx.block w.heap.size (by omega)).trans (heap_alloc_new w (.cells (Ybp c sl).toArray 48 (0,0)));exact⟨h,h⟩
theorem Yyh {x:World}{R:Nat}{c:Cel}{sl:Nat→Value}(h:x.heap[R]? =some (.cells (Ybp c sl).toArray 48 (0,0))):x.cell? ⟨R,6,none⟩=some (.int .i64 (c.dc 0))∧x.cell? ⟨R,7,none⟩=some (.int .i64 (c.dc 1))∧x.cell? ⟨R,8,none⟩=some (.int .i64 (c.dc 2))∧x.cell? ⟨R,9,none⟩=some (.int .i64 (c.dc 3))∧x.cell? ⟨R,10,none⟩=some (.int .i64 (c.dc 4))∧x.cell? ⟨R,11,none⟩=some (.int .i64 (c.dc 5)):=
 ⟨Yac h rfl,Yac h rfl,Yac h rfl,Yac h rfl,Yac h rfl,Yac h rfl⟩
theorem Yix {x:World}{R:Nat}{c:Cel}{sl:Nat→Value}(h:x.heap[R]? =some (.cells (Ybp c sl).toArray 48 (0,0))):x.cell? ⟨R,0,none⟩=some (.int .i64 c.stuff)∧x.cell? ⟨R,1,none⟩=some (.bool c.skip)∧x.cell? ⟨R,2,none⟩=some (.int .i64 c.kind)∧x.cell? ⟨R,3,none⟩=some (.int .i64 c.step)∧x.cell? ⟨R,4,none⟩=some (.int .i64 c.mx)∧x.cell? ⟨R,5,none⟩=some (.int .i64 c.my):=
 ⟨Yac h rfl,Yac h rfl,Yac h rfl,Yac h rfl,Yac h rfl,Yac h rfl⟩
set_option maxRecDepth 100000 in
theorem Ynl (c:Cel)(p:Nat→Option Addr)(n k:Nat→Nat)(w:World)(hc:Yeb w c p n):Calls Tryz.prog 118 #[.agg (Ybp c fun i=>.slice (p i) (n i) (k i)).toArray] w fun e w'=>e=.returned (.bool (Yip c))∧Below w.heap.size w w':=by
 have hcod:=fun x (hx:Below w.heap.size w x)=>Ysi c p n k x (hc.below hx);have hnon:=fun x=>Yhj c.mx c.my x;have E6:=Yut c.dc fun _=>0;have ZC:Hid (Yip c=((c.kind==0&&c.step==0&&(c.mx==0&&c.my==0))&&((List.range 6).all (fun i=>c.dc i==0)&&(((Ym5 c 6:Nat):Int)==0)))):=Lib.hid (by rw[Yvx];rfl);obtain⟨A,hA,f0,f1,f2,f3,f4,f5,-,-⟩:=Yc2 c fun i=>.slice (p i) (n i) (k i)
 obtain⟨R,w0,hR,hw0,hz0,hb0,HSZ,hbx⟩:=Yee w hA;simp only[hA] at hcod;have HBX:=Lib.hid hbx;rw[hA];rw[hR] at hcod;have HW:=Lib.hid hw0;have HR:=Lib.hid hR;have H1:=Lib.hid hcod;clear hA hc hcod hw0 hbx hR;generalize Yip c=z at *;generalize (c.mx==0&&c.my==0)=mvb at *;generalize ((List.range 6).all fun i=>c.dc i==0)=dcb at *;generalize ((Ym5 c 6:Nat):Int)=cd at *;generalize c.kind=kd at *
 generalize c.step=sp at *;cases t0:(kd==0) with
 |false=>
  rw[t0] at ZC
  go_enter Tryz.func118,Tryz.ntmps118
  go_wp2
  go_ret
  exact⟨Yae (by rw[ZC.out];rfl),by rw[HW.out,HR.out];exact hb0⟩
 |true=>
  cases t1:(sp==0) with
  |false=>
   rw[t0,t1] at ZC
   go_enter Tryz.func118,Tryz.ntmps118
   go_wp2
   go_ret
   exact⟨Yae (by rw[ZC.out];rfl),by rw[HW.out,HR.out];exact hb0⟩
  |true=>
   rw[t0,t1] at ZC
   go_enter Tryz.func118,Tryz.ntmps118
   go_wp2_with fail
   rw[HW.out,HR.out];refine(hnon _).mono ?_;rintro e w1 ⟨rfl,hb1⟩;rw[hz0] at hb1;obtain⟨g1,g2⟩:=HBX.out w1 hb1;obtain⟨d0,d1,d2,d3,d4,d5⟩:=Yyh g2;have hz1:=hb1.size;have hb2:=hb0.trans (hb1.mono (by omega));cases mvb with
   |false=>
    go_wp2
    go_ret
    exact⟨Yae (by rw[ZC.out];rfl),by rw[HR.out];exact hb2⟩
   |true=>
    cases dcb with
    |false=>
     go_wp2
     go_ret
     exact⟨Yae (by rw[ZC.out];rfl),by rw[HR.out];exact hb2⟩
    |true=>
     go_wp2_with (with_reducible refine Yah (by kernel_rfl) 48 _ rfl R rfl 48 A (0,0) _ g1 Tryz.underlying48 rfl HSZ ?_)
     refine(H1.out _ hb2).mono ?_;rintro e w2 ⟨rfl,hb3⟩;have hb4:=hb2.trans (hb3.mono (by omega))
     go_wp2
     go_ret
     exact⟨Yae (by rw[ZC.out];rfl),by rw[HR.out];exact hb4⟩
end Go.Proofs.YtnamlooifcpoaaaGreatDoor