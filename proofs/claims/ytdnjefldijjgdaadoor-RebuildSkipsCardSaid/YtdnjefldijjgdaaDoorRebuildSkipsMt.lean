/- No condition. -/
import Derived.Test.YtdnjefldijjgdaaDoorRebuildSkipsMb
import Derived.Test.YtdnjefldijjgdaaDoorRebuildSkipsMi
import Derived.Test.YtdnjefldijjgdaaDoorRebuildSkipsMn
import Derived.Test.YtdnjefldijjgdaaDoorRebuildSkipsMq
import Derived.Test.YtdnjefldijjgdaaDoorRebuildSkipsMr
import Derived.Test.YtdnjefldijjgdaaDoorRebuildSkipsMs
namespace Go.Proofs.YtdnjefldijjgdaaDoor
open Go.RowKit Go.Lib
def Ymt (k:Int):Int:=if Yau k then 1 else 0
def Ypc (c:Cel)(b:Nat):Nat→Int:=Ym2 (lvG (c.ev b) (Ymt c.kind)).1
def Ylt (c:Cel)(q:Int)(b:Nat):Nat→Int:=Yqr (Ypc c b) q (Yau c.kind) (c.dc b)
def Yds (c:Cel)(q:Int)(b:Nat):Nat→Int:=Ymx (Ylt c q b)
def ptF (F:Nat→Nat→Int)(s:Nat):Int:=F (s / 64) (s%64)
def Yna (F G:Nat→Nat→Int)(b:Nat)(s:Nat):Int:=if s<64*b then ptF F s else ptF G s
def Ypx (F:Nat→Nat→Int)(c:Cel):(Nat→Int)×Int:=if Ycl true c then (ptF F,0) else (fun _=>0,12)
theorem Yph (F G:Nat→Nat→Int):Yna F G 0=ptF G:=by
 funext s
 unfold Yna;rw[if_neg (by omega)]
theorem Yrk (F G:Nat→Nat→Int):arn 384 (Yna F G 6)=arn 384 (ptF F):=Ya1 fun s hs=>by
 unfold Yna;rw[if_pos (by omega)]
theorem Ypg {F G:Nat→Nat→Int}{h:Nat→Int}{b:Nat}(hh:∀i,i<64→h i=F b i):arn 384 (Yqq (Yna F G b) h (64*b))=arn 384 (Yna F G (b+1)):=by
 refine Ya1 fun s _=>?_;unfold Yqq Yna ptF;by_cases h1:64*b≤s∧s<64*b+64
 ·rw[if_pos h1,if_pos (by omega),hh _ (by omega),show s / 64=b by omega,show s%64=s-64*b by omega]
 ·rw[if_neg h1];by_cases h2:s<64*b
  ·rw[if_pos h2,if_pos (by omega)]
  ·rw[if_neg h2,if_neg (by omega)]
theorem Yps:ptF (fun _ _=>0)=fun _=>0:=rfl
theorem Ynf:Yit 0=fun _=>0:=by
 funext i
 unfold Yit
 split <;> rfl
theorem Yjy {f:Nat→Int}(h:∀i,i<64→f i=0):∀p,p<64→Ymx f p=0:=by
 intro p hp;have h1:=Yec (k:=kI) (lo:=-256) (hi:=255) (f:=f) (g:=Yit 0) (fun i hi=>by rw[h i hi,Ynf]) p hp;have h2:=Yi7 0 p hp;show Yrz kI (-256) 255 f p=0;rw[h1];exact h2
def Yon (c:Cel):Prop:=Yau c.kind=false∧∀i,i<6→c.ev i=[]
theorem Yqk (q:Int):Yn9 0 q=0:=by
 have h:=Yqj 0 q;omega
theorem Ypd {c:Cel}(h:Yon c){b:Nat}(hb:b<6):∀i,i<64→Ypc c b i=0:=by
 intro i _;unfold Ypc Ymt;rw[h.1,h.2 b hb]
 rfl
theorem Yql {c:Cel}(h:Yon c)(q:Int){b:Nat}(hb:b<6):∀i,i<64→Ylt c q b i=0:=by
 intro i hi;unfold Ylt Yqr;rw[if_neg (by rw[h.1];simp),Ypd h hb i hi];exact Yqk q
theorem Yqa {c:Cel}(h:Yon c)(q:Int){b:Nat}(hb:b<6):∀i,i<64→Yds c q b i=0:=Yjy (Yql h q hb)
def Ylg (n:Int):Cel:={Ysg with stuff:=n%64,skip:=true}
theorem Yp9 (n:Int):Yon (Ylg n):=⟨rfl,fun _ _=>rfl⟩
theorem Yru (n:Int):Ycl true (Ylg n)=true:=by
 have h1:Yhf (Ylg n)=true:=by
  rw[show Yhf (Ylg n)=Yhf Ysg from rfl]
  decide
 unfold Ycl;rw[h1,show (Ylg n).skip=true from rfl,show (Ylg n).stuff=n%64 from rfl,decide_eq_true (show 0≤n%64 by omega),decide_eq_true (show n%64≤64 by omega)]
 rfl
section
variable {P:Program}{op:Oper}{a:Act}{w:World}{Q:Exit→Act→World→Prop}
theorem Yio {ops:Array Oper}{rest:List Oper}(hgd:op.guard=none)(ty:TypeId)(x y:Operand)(ho:op.op=.store ty x y)
  (B b o:Nat)(hO:o=64*b)(T:TypeId)(F G:Nat→Nat→Int)(h:Nat→Int)(Z:Array Value)(hZ:Yat h=Z)(hx:a.eval x=.pointer (some ⟨B,o,none⟩))(hy:a.eval y=.agg Z)(hg:w.heap[B]? =some (Ycg T 384 (Yna F G b)))(hb:b<6)(hh:∀i,i<64→h i=F b i)
  (hi:(P.info? ty).map (·.size)=some Z.size)
  (hk:∀w',Hid (w'.heap[B]? =some (Ycg T 384 (Yna F G (b+1))))→w.grownBy w' (some B)→wpList P ops Q rest (a.put op.dst undef) w'):wpList P ops Q (op::rest) a w:=by
 subst hZ hO;refine Ybe hgd ty x y ho B (64*b) (Yat h) hx hy _ T hg hi (fun v hv=>(Array.all_eq_true_iff_forall_mem.1 (Ya0 h)) v (by simpa using hv)) (by rw[Yag,Yai];omega) fun w' h1 h2=>?_;refine hk w' (Lib.hid ?_) h2;have:=h1.out;rw[Yag,Ygn 384 (64*b) _ _ (by omega),Ypg hh] at this;exact this
end
theorem Yfe (a b:Int)(w:World):Calls Tryd.prog 51 #[.agg #[.int .i64 a,.int .i64 b]] w fun e w'=>e=.returned (.bool (a==0&&b==0))∧Below w.heap.size w w':=by
 have E2:=Yil a b 0 0
 go_enter Tryd.func51,Tryd.ntmps51
 go_wp2
 go_ret
 exact⟨rfl,(Below.refl _ w).alloc (Nat.le_refl _) _⟩
theorem Ydz (c:Cel)(sl:Nat→Value):(Tryd.prog.info? 37).map (·.size)=some (Yck c sl).toArray.size:=by kernel_rfl
theorem Ycd (c:Cel)(sl:Nat→Value):∃A:Array Value,(Yck c sl).toArray=A∧A[0]? =some (.int .i64 c.stuff)∧A[1]? =some (.bool c.skip)∧A[2]? =some (.int .i64 c.kind)∧A[3]? =some (.int .i64 c.step)∧A[4]? =some (.int .i64 c.mx)∧A[5]? =some (.int .i64 c.my)∧
  (A[6]? =some (.int .i64 (c.dc 0))∧A[7]? =some (.int .i64 (c.dc 1))∧A[8]? =some (.int .i64 (c.dc 2))∧A[9]? =some (.int .i64 (c.dc 3))∧A[10]? =some (.int .i64 (c.dc 4))∧A[11]? =some (.int .i64 (c.dc 5)))∧
  (A[12]? =some (sl 0)∧A[13]? =some (sl 1)∧A[14]? =some (sl 2)∧A[15]? =some (sl 3)∧A[16]? =some (sl 4)∧A[17]? =some (sl 5)):=
 ⟨_,rfl,rfl,rfl,rfl,rfl,rfl,rfl,⟨rfl,rfl,rfl,rfl,rfl,rfl⟩,rfl,rfl,rfl,rfl,rfl,rfl⟩
theorem Yen (c:Cel)(sl:Nat→Value)(w:World):Calls Tryd.prog 54 #[.agg (Yck c sl).toArray] w fun e w'=>e=.returned (.bool (Yau c.kind))∧Below w.heap.size w w':=by
 obtain⟨A,hA,f0,f1,f2,f3,f4,f5,_,_⟩:=Ycd c sl;rw[hA];clear hA;have IK:Hid (Yau c.kind=(c.kind==3 || c.kind==4)):=Lib.hid rfl;generalize Yau c.kind=ik at IK ⊢;generalize c.kind=k at f2 IK;rcases Bool.eq_false_or_eq_true (k==3) with t0|t0
 ·go_enter Tryd.func54,Tryd.ntmps54
  go_wp2
  go_ret
  exact⟨Yae (by rw[IK.out,t0];rfl),(Below.refl _ w).alloc (Nat.le_refl _) _⟩
 ·go_enter Tryd.func54,Tryd.ntmps54
  go_wp2
  go_ret
  exact⟨Yae (by rw[IK.out,t0];rfl),(Below.refl _ w).alloc (Nat.le_refl _) _⟩
theorem Yfx (inter:Bool)(k:Int)(w:World):Calls Tryd.prog 37 #[.bool inter,.int .i64 k] w fun e w'=>e=.returned (.bool (Yi9 inter k))∧w=w':=by
 have key:∀v:Bool,Yi9 inter k=v→Calls Tryd.prog 37 #[.bool inter,.int .i64 k] w fun e w'=>e=.returned (.bool v)∧w=w':=by
  intro v hv;by_cases h0:k=0
  ·subst h0;cases inter <;> (subst hv;go_enter Tryd.func37,Tryd.ntmps37;go_wp2;go_ret;exact⟨rfl,rfl⟩)
  by_cases h1:k=1
  ·subst h1;cases inter <;> (subst hv;go_enter Tryd.func37,Tryd.ntmps37;go_wp2;go_ret;exact⟨rfl,rfl⟩)
  by_cases h3:k=3
  ·subst h3;cases inter <;> (subst hv;go_enter Tryd.func37,Tryd.ntmps37;go_wp2;go_ret;exact⟨rfl,rfl⟩)
  by_cases h4:k=4
  ·subst h4;cases inter <;> (subst hv;go_enter Tryd.func37,Tryd.ntmps37;go_wp2;go_ret;exact⟨rfl,rfl⟩)
  have hv2:v=false:=by rw[←hv];simp[Yi9,h0,h1,h3,h4]
  subst hv2;have t0:(k==0)=false:=by rw[beq_eq_false_iff_ne];exact h0
  have t1:(k==1)=false:=by rw[beq_eq_false_iff_ne];exact h1
  have t3:(k==3)=false:=by rw[beq_eq_false_iff_ne];exact h3
  have t4:(k==4)=false:=by rw[beq_eq_false_iff_ne];exact h4
  clear hv h0 h1 h3 h4
  go_enter Tryd.func37,Tryd.ntmps37
  go_wp2
  go_ret
  exact⟨rfl,rfl⟩
 exact key _ rfl
theorem Ynj (a b:Int)(w:World):(Instr.index 32 (.agg #[.int .i64 a,.int .i64 b]) (.int .i64 0)).run Tryd.prog w=.ok (.int .i64 a) w∧(Instr.index 32 (.agg #[.int .i64 a,.int .i64 b]) (.int .i64 1)).run Tryd.prog w=.ok (.int .i64 b) w:=
 ⟨by kernel_rfl,by kernel_rfl⟩
theorem Yqg (w:World)(o1 o2:Obj):((w.alloc o1).alloc o2).heap[w.heap.size+1]? =some o2:=by simpa using heap_alloc_new (w.alloc o1) o2
set_option maxRecDepth 100000 in
theorem Yiq (a b:Int)(w:World):Calls Tryd.prog 55 #[.agg #[.int .i64 a,.int .i64 b]] w fun e w'=>e=.returned (.agg #[.int .i64 (Yiu a),.int .i64 (Yiu b)])∧Below w.heap.size w w':=by
 have hw0:=fun x=>Yip a x;have hw1:=fun x=>Yip b x;have i0:=fun x=>(Ynj a b x).1;have i1:=fun x=>(Ynj a b x).2;generalize Yiu a=u at hw0 ⊢;generalize Yiu b=v at hw1 ⊢
 go_enter Tryd.func55,Tryd.ntmps55
 go_wp2
 go_loopw [6] (fun z wr=>(z=.int .i64 0∧wr=(w.alloc (.cells #[.int .i64 a,.int .i64 b] 32 (0,0))).alloc (.cells #[.int .i64 0,.int .i64 0] 32 (0,0)))∨(z=.int .i64 1∧wr=(w.alloc (.cells #[.int .i64 u,.int .i64 b] 32 (0,0))).alloc (.cells #[.int .i64 0,.int .i64 0] 32 (0,0)))∨(z=.int .i64 2∧wr=(w.alloc (.cells #[.int .i64 u,.int .i64 v] 32 (0,0))).alloc (.cells #[.int .i64 0,.int .i64 0] 32 (0,0)))) (fun z _=>2-(intOf z).toNat)
 case atStart=>exact .inl ⟨rfl,rfl⟩
 case round=>
  rcases hrel with ⟨rfl,rfl⟩|⟨rfl,rfl⟩|⟨rfl,rfl⟩
  ·go_wp2_with fail
   refine(hw0 _).mono ?_;rintro e w1 ⟨rfl,rfl⟩
   go_wp2
   go_roundw
   case rel=>exact .inr (.inl (by simp))
   case measure=>simp[intOf]
  ·go_wp2_with fail
   refine(hw1 _).mono ?_;rintro e w1 ⟨rfl,rfl⟩
   go_wp2
   go_roundw
   case rel=>exact .inr (.inr (by simp))
   case measure=>simp[intOf]
  ·go_wp2
   refine bodyPost_ret (results_cell_row rfl _ _ (w.heap.size+1) 32 _ (0,0) _ rfl (Yqg w _ _) Tryd.underlying32 rfl (by kernel_rfl)) rfl ?_;exact⟨rfl,((Below.refl _ w).alloc (Nat.le_refl _) _).alloc (by simp) _⟩
theorem Ykc (f:Nat→Value)(w:World):∀i:Nat,i<6→(Instr.index 35 (.agg #[f 0,f 1,f 2,f 3,f 4,f 5]) (.int .i64 (i:Nat))).run Tryd.prog w=.ok (f i) w
 |0,_=>by kernel_rfl
 |1,_=>by kernel_rfl
 |2,_=>by kernel_rfl
 |3,_=>by kernel_rfl
 |4,_=>by kernel_rfl
 |5,_=>by kernel_rfl
theorem Ymf (c:Cel):∀i,Yir c i<2^i
 |0=>Nat.one_pos
 |i+1=>by
  have h1:=Ymf c i;have h2:=Yra c i;show 2*Yir c i+Yhw c i<2^(i+1);rw[Nat.pow_succ];omega
theorem Yrs:∀m,m<64→wrap64 (((m:Nat):Int)*2)=((2*m:Nat):Int)∧bits .or .i64 (wrap64 (((m:Nat):Int)*2)) 1=((2*m+1:Nat):Int):=by decide +kernel
set_option maxRecDepth 100000 in
theorem Ymh (c:Cel)(p:Nat→Option Addr)(n k:Nat→Nat)(w:World)(hc:Ycz w c p n):Calls Tryd.prog 52 #[.agg (Yck c fun i=>.slice (p i) (n i) (k i)).toArray] w fun e w'=>e=.returned (.int .i64 (Yir c 6:Nat))∧Below w.heap.size w w':=by
 obtain⟨A,hA,-,-,-,-,-,-,-,f12,f13,f14,f15,f16,f17⟩:=Ycd c fun i=>.slice (p i) (n i) (k i);rw[hA];clear hA
 go_enter Tryd.func52,Tryd.ntmps52
 go_wp2
 go_loopw [3,8] (fun t z wr=>∃i:Nat,i≤6∧z=.int .i64 i∧t=.int .i64 (Yir c i:Nat)∧Below w.heap.size w wr) (fun _ z _=>6-(intOf z).toNat)
 case atStart=>exact⟨0,by omega,rfl,rfl,(Below.refl _ w).alloc (Nat.le_refl _) _⟩
 case round=>
  obtain⟨i,hi6,rfl,rfl,hb⟩:=hrel;by_cases hlt:i<6
  ·have t0:decide ((i:Int)<6)=true:=by simp;omega
   have h1:(decide (0<n i)).toNat=Yhw c i:=by unfold Yhw;rw[(hc i hlt).1]
   have i0:=fun x=>Ykc (fun i=>.slice (p i) (n i) (k i)) x i hlt;clear hc;obtain⟨q1,q2⟩:=Yrs (Yir c i) (by
    have h2:=Ymf c i;have h3:2^i≤2^6:=Nat.pow_le_pow_right (by decide) hi6;omega)
   have Q1:=Lib.hid q1;have Q2:=Lib.hid q2;have N:=Lib.hid (show Yir c (i+1)=2*Yir c i+Yhw c i from rfl);clear q1 q2;by_cases h0:0<n i
   ·have t1:decide (0<n i)=true:=by simpa using h0
    have t2:decide (0<(n i:Int))=true:=by simpa using h0
    have H:=Lib.hid (show Yhw c i=1 by rw[←h1,t1];rfl);clear h0 h1
    go_wp2
    go_roundw
    case rel=>exact⟨i+1,by omega,by go_num,by rw[Q2.out,N.out,H.out],hb⟩
    case measure=>simp[intOf];omega
   ·have t1:decide (0<n i)=false:=by simpa using h0
    have t2:decide (0<(n i:Int))=false:=by simpa using h0
    have H:=Lib.hid (show Yhw c i=0 by rw[←h1,t1];rfl);clear h0 h1
    go_wp2
    go_roundw
    case rel=>exact⟨i+1,by omega,by go_num,by rw[Q1.out,N.out,H.out];rfl,hb⟩
    case measure=>simp[intOf];omega
  ·obtain rfl:i=6:=by omega
   go_wp2
   go_ret
   exact⟨rfl,hb⟩
theorem You (c:Cel):(((Yir c 6:Nat):Int)==0)=(List.range 6).all fun i=>decide ((c.ev i).length=0):=by
 have h:∀i,Yhw c i=if (c.ev i).length=0 then 0 else 1:=by
  intro i;unfold Yhw;by_cases h:(c.ev i).length=0
  ·rw[if_pos h,decide_eq_false (by omega)];rfl
  ·rw[if_neg h,decide_eq_true (by omega)];rfl
 have h0:=h 0;have h1:=h 1;have h2:=h 2;have h3:=h 3;have h4:=h 4;have h5:=h 5;rw[Bool.eq_iff_iff,beq_iff_eq,List.all_eq_true,Yq2,Yot];unfold Ysj;constructor
 ·intro hz i hi;rw[decide_eq_true_iff];have hi:=List.mem_range.1 hi;rcases (by omega:i=0∨i=1∨i=2∨i=3∨i=4∨i=5) with rfl|rfl|rfl|rfl|rfl|rfl
  all_goals
   refine Decidable.byContradiction fun hn=>?_
   first
    |(rw[if_neg hn] at h0;omega)
    |(rw[if_neg hn] at h1;omega)
    |(rw[if_neg hn] at h2;omega)
    |(rw[if_neg hn] at h3;omega)
    |(rw[if_neg hn] at h4;omega)
    |(rw[if_neg hn] at h5;omega)
 ·intro hz;have hz:=fun i hi=>of_decide_eq_true (hz i (List.mem_range.2 hi));rw[if_pos (hz 0 (by omega))] at h0;rw[if_pos (hz 1 (by omega))] at h1;rw[if_pos (hz 2 (by omega))] at h2;rw[if_pos (hz 3 (by omega))] at h3;rw[if_pos (hz 4 (by omega))] at h4;rw[if_pos (hz 5 (by omega))] at h5;omega
theorem Yc2 (w:World){c:Cel}{sl:Nat→Value}{A:Array Value}(hA:(Yck c sl).toArray=A):∃(R:Nat) (w0:World),w.heap.size=R∧w.alloc (.cells A 37 (0,0))=w0∧w0.heap.size=R+1∧Below R w w0∧(Tryd.prog.info? 37).map (·.size)=some A.size∧
  (∀x,Below (R+1) w0 x→x.heap[R]? =some (.cells A 37 (0,0))∧x.heap[R]? =some (.cells (Yck c sl).toArray 37 (0,0))):=by
 subst hA;refine⟨_,_,rfl,rfl,by simp,(Below.refl _ w).alloc (Nat.le_refl _) _,Ydz c sl,fun x hx=>?_⟩;have h:=(hx.block w.heap.size (by omega)).trans (heap_alloc_new w (.cells (Yck c sl).toArray 37 (0,0)));exact⟨h,h⟩
theorem Yq0 {x:World}{R:Nat}{c:Cel}{sl:Nat→Value}(h:x.heap[R]? =some (.cells (Yck c sl).toArray 37 (0,0))):x.cell? ⟨R,6,none⟩=some (.int .i64 (c.dc 0))∧x.cell? ⟨R,7,none⟩=some (.int .i64 (c.dc 1))∧x.cell? ⟨R,8,none⟩=some (.int .i64 (c.dc 2))∧x.cell? ⟨R,9,none⟩=some (.int .i64 (c.dc 3))∧x.cell? ⟨R,10,none⟩=some (.int .i64 (c.dc 4))∧x.cell? ⟨R,11,none⟩=some (.int .i64 (c.dc 5)):=
 ⟨Yad h rfl,Yad h rfl,Yad h rfl,Yad h rfl,Yad h rfl,Yad h rfl⟩
theorem Yf6 {x:World}{R:Nat}{c:Cel}{sl:Nat→Value}(h:x.heap[R]? =some (.cells (Yck c sl).toArray 37 (0,0))):x.cell? ⟨R,0,none⟩=some (.int .i64 c.stuff)∧x.cell? ⟨R,1,none⟩=some (.bool c.skip)∧x.cell? ⟨R,2,none⟩=some (.int .i64 c.kind)∧x.cell? ⟨R,3,none⟩=some (.int .i64 c.step)∧x.cell? ⟨R,4,none⟩=some (.int .i64 c.mx)∧x.cell? ⟨R,5,none⟩=some (.int .i64 c.my):=
 ⟨Yad h rfl,Yad h rfl,Yad h rfl,Yad h rfl,Yad h rfl,Yad h rfl⟩
set_option maxRecDepth 100000 in
theorem Yi8 (c:Cel)(p:Nat→Option Addr)(n k:Nat→Nat)(w:World)(hc:Ycz w c p n):Calls Tryd.prog 36 #[.agg (Yck c fun i=>.slice (p i) (n i) (k i)).toArray] w fun e w'=>e=.returned (.bool (Yhf c))∧Below w.heap.size w w':=by
 have hcod:=fun x (hx:Below w.heap.size w x)=>Ymh c p n k x (hc.below hx);have hnon:=fun x=>Yfe c.mx c.my x;have E6:=Yn4 c.dc fun _=>0;have ZC:Hid (Yhf c=((c.kind==0&&c.step==0&&(c.mx==0&&c.my==0))&&((List.range 6).all (fun i=>c.dc i==0)&&(((Yir c 6:Nat):Int)==0)))):=Lib.hid (by rw[You];rfl);obtain⟨A,hA,f0,f1,f2,f3,f4,f5,-,-⟩:=Ycd c fun i=>.slice (p i) (n i) (k i)
 obtain⟨R,w0,hR,hw0,hz0,hb0,HSZ,hbx⟩:=Yc2 w hA;simp only[hA] at hcod;have HBX:=Lib.hid hbx;rw[hA];rw[hR] at hcod;have HW:=Lib.hid hw0;have HR:=Lib.hid hR;have H1:=Lib.hid hcod;clear hA hc hcod hw0 hbx hR;generalize Yhf c=z at *;generalize (c.mx==0&&c.my==0)=mvb at *;generalize ((List.range 6).all fun i=>c.dc i==0)=dcb at *;generalize ((Yir c 6:Nat):Int)=cd at *;generalize c.kind=kd at *
 generalize c.step=sp at *;cases t0:(kd==0) with
 |false=>
  rw[t0] at ZC
  go_enter Tryd.func36,Tryd.ntmps36
  go_wp2
  go_ret
  exact⟨Yae (by rw[ZC.out];rfl),by rw[HW.out,HR.out];exact hb0⟩
 |true=>
  cases t1:(sp==0) with
  |false=>
   rw[t0,t1] at ZC
   go_enter Tryd.func36,Tryd.ntmps36
   go_wp2
   go_ret
   exact⟨Yae (by rw[ZC.out];rfl),by rw[HW.out,HR.out];exact hb0⟩
  |true=>
   rw[t0,t1] at ZC
   go_enter Tryd.func36,Tryd.ntmps36
   go_wp2_with fail
   rw[HW.out,HR.out];refine(hnon _).mono ?_;rintro e w1 ⟨rfl,hb1⟩;rw[hz0] at hb1;obtain⟨g1,g2⟩:=HBX.out w1 hb1;obtain⟨d0,d1,d2,d3,d4,d5⟩:=Yq0 g2;have hz1:=hb1.size;have hb2:=hb0.trans (hb1.mono (by omega));cases mvb with
   |false=>
    go_wp2
    go_ret
    exact⟨Yae (by rw[ZC.out];rfl),by rw[HR.out];exact hb2⟩
   |true=>
    cases dcb with
    |false=>
     go_wp2
     go_ret
     exact⟨Yae (by rw[ZC.out];rfl),by rw[HR.out];exact hb2⟩
    |true=>
     go_wp2_with (with_reducible refine Yax (by kernel_rfl) 37 _ rfl R rfl 37 A (0,0) _ g1 Tryd.underlying37 rfl HSZ ?_)
     refine(H1.out _ hb2).mono ?_;rintro e w2 ⟨rfl,hb3⟩;have hb4:=hb2.trans (hb3.mono (by omega))
     go_wp2
     go_ret
     exact⟨Yae (by rw[ZC.out];rfl),by rw[HR.out];exact hb4⟩
end Go.Proofs.YtdnjefldijjgdaaDoor