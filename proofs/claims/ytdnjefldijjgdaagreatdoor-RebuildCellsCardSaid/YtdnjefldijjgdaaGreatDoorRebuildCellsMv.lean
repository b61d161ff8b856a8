/- No condition. -/
import Derived.Test.YtdnjefldijjgdaaGreatDoorRebuildCellsMa
import Derived.Test.YtdnjefldijjgdaaGreatDoorRebuildCellsMh
import Derived.Test.YtdnjefldijjgdaaGreatDoorRebuildCellsMi
import Derived.Test.YtdnjefldijjgdaaGreatDoorRebuildCellsMn
import Derived.Test.YtdnjefldijjgdaaGreatDoorRebuildCellsMs
import Derived.Test.YtdnjefldijjgdaaGreatDoorRebuildCellsMt
import Derived.Laws.IdiomCopy
import Derived.Laws.BytesArg
import Derived.Laws.World
import Derived.WalkMore
import Derived.Laws.Slices
namespace Go.Proofs.YtdnjefldijjgdaaGreatDoor
open Go.RowKit Go.Lib Go.ChangeShapes Go.WideShapes Go.ChangeAt
def frL (k:Int)(v:Nat→Value):List Value:=[.int .i64 k,v 0,v 1,v 2]
def frA (k:Int)(v:Nat→Value):Array Value:=(frL k v).toArray
def frO (T:TypeId)(k:Int)(v:Nat→Value):Obj:=.cells (frA k v) T (0,0)
def Yua:Nat→Value:=fun _=>.slice none 0 0
section
variable {w:World}{B:Nat}{T:TypeId}{k:Int}{v:Nat→Value}
theorem Ycm (h:w.heap[B]? =some (frO T k v)):w.cell? ⟨B,0,none⟩=some (.int .i64 k):=Yae (cs:=frL k v) h rfl
theorem Ykt (h:w.heap[B]? =some (frO T k v)){p:Nat}(hp:p<3):w.cell? ⟨B,1+p,none⟩=some (v p):=by
 refine Yae (cs:=frL k v) h ?_
 match p,hp with
 |0,_=>rfl
 |1,_=>rfl
 |2,_=>rfl
end
theorem Ydf {T:TypeId}(h:(Tryz.prog.info? T).map (·.size)=some 4)(k:Int)(v:Nat→Value):(Tryz.prog.info? T).map (·.size)=some (frA k v).size:=h
theorem Yn9:∃i,Tryz.prog.info? 22=some i:=by
 cases h:Tryz.prog.info? 22 with
 |some i=>exact⟨i,rfl⟩
 |none=>
  have h2:(Tryz.prog.info? 22).isSome=true:=by kernel_rfl
  rw[h] at h2;cases h2
theorem Ymn:Tryz.prog.cellsOf 22=1:=by kernel_rfl
theorem Yia (v:Nat→Value){p:Nat}(hp:p<3)(w:World):(Instr.index 23 (.agg #[v 0,v 1,v 2]) (.int .i64 (p:Int))).run Tryz.prog w=.ok (v p) w:=by
 obtain⟨j,hj⟩:=Yn9;have h1:(0:Int)≤(p:Int)∧(p:Int)<((3:Nat):Int):=by omega
 have hx:#[v 0,v 1,v 2][p]? =some (v p):=by
  match p,hp with
  |0,_=>rfl
  |1,_=>rfl
  |2,_=>rfl
 simp only[Instr.index,asIntOf,Sem.run_bind,Sem.run_pure,Result.andThen_ok,run_underlying Tryz.underlying23,if_pos h1,run_sizeOf w hj,Ymn,Nat.mul_one,Int.toNat_natCast];simp[part,isAgg,run_underlying Tryz.underlying22,hx]
def Ykj (w:World)(v:Value)(n:Nat)(f:Nat→Int):Prop:=∃p c,v=.slice p n c∧n≤c∧(n=0∨∃b o,p=some ⟨b,o,none⟩∧∀i,i<n→w.cell? ⟨b,o+i,none⟩=some (.int .u8 (f i))∧0≤f i∧f i≤255)
theorem Ykj.below {w w':World}{v:Value}{n:Nat}{f:Nat→Int}(h:Ykj w v n f)(hb:Below w.heap.size w w'):Ykj w' v n f:=by
 obtain⟨p,c,rfl,hc,h⟩:=h;refine⟨p,c,rfl,hc,?_⟩;rcases h with h|⟨b,o,rfl,h⟩
 ·exact .inl h
 ·refine .inr ⟨b,o,rfl,fun i hi=>?_⟩;obtain⟨h1,h2⟩:=h i hi;exact⟨(hb.cell (p:=⟨b,o+i,none⟩) (World.block_lt_of_cell? w ⟨b,o+i,none⟩ h1)).trans h1,h2⟩
theorem Ykj.nil (w:World)(f:Nat→Int):Ykj w (.slice none 0 0) 0 f:=⟨none,0,rfl,Nat.le_refl _,.inl rfl⟩
theorem Ykj.range {w:World}{v:Value}{n:Nat}{f:Nat→Int}(h:Ykj w v n f):∀i,i<n→0≤f i∧f i≤255:=by
 obtain⟨p,c,rfl,hc,h⟩:=h;rcases h with h|⟨b,o,rfl,h⟩
 ·intro i hi;omega
 ·intro i hi;exact(h i hi).2
def Yiw (w:World)(v:Nat→Value)(n:Nat→Nat)(f:Nat→Nat→Int):Prop:=∀p,p<3→Ykj w (v p) (n p) (f p)
theorem Yiw.below {w w':World}{v:Nat→Value}{n:Nat→Nat}{f:Nat→Nat→Int}(h:Yiw w v n f)(hb:Below w.heap.size w w'):Yiw w' v n f:=fun p hp=>(h p hp).below hb
theorem Yiw.nil (w:World):Yiw w Yua (fun _=>0) (fun _ _=>0):=fun _ _=>Ykj.nil w _
section
variable {w w':World}{v:Value}{g n:Nat}{f:Nat→Int}
end
section
variable {w w':World}{lo:Nat}{v:Nat→Value}{g n:Nat→Nat}{f f':Nat→Nat→Int}
end
end Go.Proofs.YtdnjefldijjgdaaGreatDoor
namespace Go.Proofs.YtdnjefldijjgdaaGreatDoor
open Go.RowKit Go.Lib
theorem Yd5 (k:Int)(p:Nat)(hp:p<3)(w:World):Calls Tryz.prog 68 #[.int .i64 k,.int .i64 (p:Int)] w fun e w'=>e=.returned (.int .i64 (siz k p:Int))∧w=w':=by
 have c:=fun w=>Ygd k p w;rw[Yot k p hp] at c;have hs:(wid k p:Int)*(hei k p:Int)=(siz k p:Int):=(Int.natCast_mul _ _).symm;have hw:IntKind.i64.wrap (siz k p:Int)=(siz k p:Int):=Ycv (by have:=Yf1 k p;omega);generalize wid k p=a at *;generalize hei k p=b at *;generalize siz k p=m at *
 go_enter Tryz.func68,Tryz.ntmps68
 go_wp2_with (with_reducible refine(c _).mono ?_;rintro e w1 ⟨rfl,rfl⟩)
 go_ret
 exact⟨rfl,rfl⟩
theorem Yib (k:Int)(w:World):Calls Tryz.prog 69 #[.int .i64 k] w fun e w'=>e=.returned (.bool (Yed k))∧w=w':=by
 have c:=fun w=>Yfb k w;generalize Yed k=y at *;generalize Yda k=a at *;generalize Ydd k=b at *
 go_enter Tryz.func69,Tryz.ntmps69
 go_wp2_with (with_reducible refine(c _).mono ?_;rintro e w1 ⟨rfl,rfl⟩)
 go_ret
 exact⟨rfl,rfl⟩
def Ybf (k:Int)(n:Nat→Nat):Bool:=Yed k&&(decide (n 0=siz k 0)&&(decide (n 1=siz k 1)&&decide (n 2=siz k 2)))
theorem Ydr {k:Int}{n:Nat→Nat}:Ybf k n=true↔Yed k=true∧∀p,p<3→n p=siz k p:=by
 unfold Ybf;simp only[Bool.and_eq_true,decide_eq_true_iff];constructor
 ·rintro⟨h,h0,h1,h2⟩;refine⟨h,fun p hp=>?_⟩
  match p,hp with
  |0,_=>exact h0
  |1,_=>exact h1
  |2,_=>exact h2
 ·rintro⟨h,hp⟩;exact⟨h,hp 0 (by omega),hp 1 (by omega),hp 2 (by omega)⟩
theorem Yih {a b:Nat}(h:a=b):((a:Int) != (b:Int))=false:=by simp[h]
theorem Yii {a b:Nat}(h:a≠b):((a:Int) != (b:Int))=true:=by simp[bne];omega
set_option maxRecDepth 100000 in
set_option maxHeartbeats 2000000 in
theorem Yfk (k:Int)(v:Nat→Value)(n:Nat→Nat)(w:World)(hv:∀p,p<3→∃a c,v p=.slice a (n p) c):
  Calls Tryz.prog 42 #[.agg (frA k v)] w fun e w'=>e=.returned (.bool (Ybf k n))∧Below w.heap.size w w':=by
 have hb1:∀o,Below w.heap.size w (w.alloc o):=fun o=>(Below.refl _ w).alloc (Nat.le_refl _) _;have c0:∀w,Calls Tryz.prog 68 #[.int .i64 k,.int .i64 0] w fun e w'=>e=.returned (.int .i64 (siz k 0:Int))∧w=w':=fun w=>Yd5 k 0 (by omega) w;have c1:∀w,Calls Tryz.prog 68 #[.int .i64 k,.int .i64 1] w fun e w'=>e=.returned (.int .i64 (siz k 1:Int))∧w=w':=fun w=>Yd5 k 1 (by omega) w
 have c2:∀w,Calls Tryz.prog 68 #[.int .i64 k,.int .i64 2] w fun e w'=>e=.returned (.int .i64 (siz k 2:Int))∧w=w':=fun w=>Yd5 k 2 (by omega) w;have c3:=fun w=>Yib k w;have hR:=Lib.hid (show Ybf k n=(Yed k&&(decide (n 0=siz k 0)&&(decide (n 1=siz k 1)&&decide (n 2=siz k 2)))) from rfl);obtain⟨a0,b0,hv0⟩:=hv 0 (by omega);obtain⟨a1,b1,hv1⟩:=hv 1 (by omega);obtain⟨a2,b2,hv2⟩:=hv 2 (by omega)
 have x0:∀w,(Instr.index 23 (.agg #[v 0,v 1,v 2]) (.int .i64 0)).run Tryz.prog w=.ok (v 0) w:=fun w=>Yia v (p:=0) (by omega) w;have x1:∀w,(Instr.index 23 (.agg #[v 0,v 1,v 2]) (.int .i64 1)).run Tryz.prog w=.ok (v 1) w:=fun w=>Yia v (p:=1) (by omega) w;have x2:∀w,(Instr.index 23 (.agg #[v 0,v 1,v 2]) (.int .i64 2)).run Tryz.prog w=.ok (v 2) w:=fun w=>Yia v (p:=2) (by omega) w;unfold frA frL
 rw[hv0,hv1,hv2] at x0 x1 x2 ⊢;clear hv hv0 hv1 hv2;generalize Yed k=y at *;generalize Ybf k n=z at *;generalize siz k 0=s0 at *;generalize siz k 1=s1 at *;generalize siz k 2=s2 at *;generalize n 0=n0 at *;generalize n 1=n1 at *;generalize n 2=n2 at *
 go_enter Tryz.func42,Tryz.ntmps42
 go_wp2
 go_loopw [7] (fun z wr=>∃i:Nat,i≤3∧z=.int .i64 i∧wr=w.alloc (.cells #[.int .i64 k,.slice a0 n0 b0,.slice a1 n1 b1,.slice a2 n2 b2] 25 (0,0))∧Hid ((1≤i→n0=s0)∧(2≤i→n1=s1)∧(3≤i→n2=s2))) (fun z _=>3-(intOf z).toNat)
 case atStart=>exact⟨0,by omega,rfl,rfl,by show _∧_;omega⟩
 case round=>
  obtain⟨i,hi,rfl,rfl,HH⟩:=hrel;obtain⟨k0,k1,k2⟩:=HH.out;clear HH;have hi4:i=0∨i=1∨i=2∨i=3:=by omega
  rcases hi4 with rfl|rfl|rfl|rfl
  case _=>
   by_cases e:n0=s0
   ·have t:=Yih e;have HE:=Lib.hid e;clear e k0 k1 k2
    go_wp2_with (with_reducible refine(c0 _).mono ?_;rintro e w1 ⟨rfl,rfl⟩)
    go_roundw
    case rel=>exact⟨1,by omega,rfl,(by trivial),⟨fun _=>HE.out,by omega,by omega⟩⟩
    case measure=>simp[intOf]
   ·have t:=Yii e
    go_wp2_with (with_reducible refine(c0 _).mono ?_;rintro e w1 ⟨rfl,rfl⟩)
    go_ret
    exact⟨Yac (by rw[hR.out,decide_eq_false e];simp),hb1 _⟩
  case _=>
   have e0:=k0 (by omega);by_cases e:n1=s1
   ·have t:=Yih e;have HE:=Lib.hid e;have HE0:=Lib.hid e0;clear e e0 k0 k1 k2
    go_wp2_with (with_reducible refine(c1 _).mono ?_;rintro e w1 ⟨rfl,rfl⟩)
    go_roundw
    case rel=>exact⟨2,by omega,rfl,(by trivial),⟨fun _=>HE0.out,fun _=>HE.out,by omega⟩⟩
    case measure=>simp[intOf]
   ·have t:=Yii e;clear e0 k0 k1 k2
    go_wp2_with (with_reducible refine(c1 _).mono ?_;rintro e w1 ⟨rfl,rfl⟩)
    go_ret
    exact⟨Yac (by rw[hR.out,decide_eq_false e];simp),hb1 _⟩
  case _=>
   have e0:=k0 (by omega);have e1:=k1 (by omega);by_cases e:n2=s2
   ·have t:=Yih e;have HE:=Lib.hid e;have HE0:=Lib.hid e0;have HE1:=Lib.hid e1;clear e e0 e1 k0 k1 k2
    go_wp2_with (with_reducible refine(c2 _).mono ?_;rintro e w1 ⟨rfl,rfl⟩)
    go_roundw
    case rel=>exact⟨3,by omega,rfl,(by trivial),⟨fun _=>HE0.out,fun _=>HE1.out,fun _=>HE.out⟩⟩
    case measure=>simp[intOf]
   ·have t:=Yii e;clear e0 e1 k0 k1 k2
    go_wp2_with (with_reducible refine(c2 _).mono ?_;rintro e w1 ⟨rfl,rfl⟩)
    go_ret
    exact⟨Yac (by rw[hR.out,decide_eq_false e];simp),hb1 _⟩
  case _=>
   have e0:=k0 (by omega);have e1:=k1 (by omega);have e2:=k2 (by omega);subst e0 e1 e2;clear k0 k1 k2
   go_wp2_with (with_reducible refine(c3 _).mono ?_;rintro e w1 ⟨rfl,rfl⟩)
   go_ret
   exact⟨Yac (by rw[hR.out];simp),hb1 _⟩
theorem Ydq {a b c a' b' c':Int}(h1:a=a')(h2:b=b')(h3:c=c'):Ending.returned (.tuple #[.int .i64 a,.int .i64 b,.int .i64 c])=.returned (.tuple #[.int .i64 a',.int .i64 b',.int .i64 c']):=by rw[h1,h2,h3]
set_option maxRecDepth 100000 in
theorem Yf5 (k:Int)(w:World):Calls Tryz.prog 22 #[.int .i64 k] w fun e w'=>e=.returned (.int .i64 (acr k:Int))∧Below w.heap.size w w':=by
 have c:=fun w=>Yc3 k w;obtain⟨d1,-⟩:=Yhu k;obtain⟨-,-,-,-,m1,m2⟩:=Ybu k;have w1:IntKind.i64.wrap (acr k:Int)=(acr k:Int):=Ycv (by omega);have ix0:=fun w=>(Ybm (Yda k) (Ydd k) (Yjf k) (Yje k) w).1;have ix1:=fun w=>(Ybm (Yda k) (Ydd k) (Yjf k) (Yje k) w).2;unfold Yqe at c;clear m1 m2;generalize acr k=a at *;generalize Yda k=W at *;generalize Ydd k=H at *;generalize Yjf k=R at *
 generalize Yje k=L at *
 go_enter Tryz.func22,Tryz.ntmps22
 go_wp2_with fail
 refine(c _).mono ?_;rintro e x1 ⟨rfl,hb1⟩
 go_wp2
 go_ret
 exact⟨rfl,hb1⟩
set_option maxRecDepth 100000 in
set_option maxHeartbeats 1000000 in
theorem Ykc (k:Int)(p:Nat)(hp:p<3)(w:World):Calls Tryz.prog 20 #[.int .i64 k,.int .i64 (p:Int)] w fun e w'=>e=.returned (.int .i64 (wid k p:Int))∧Below w.heap.size w w':=by
 have c:=fun w=>Yc3 k w;obtain⟨-,-,d1,-⟩:=Yhu k;obtain⟨-,-,h3,-,m1,m2⟩:=Ybu k;have w1:IntKind.i64.wrap ((8*acr k:Nat):Int)=((8*acr k:Nat):Int):=Ycv (by omega);have hw:wid k p=if p=0 then 16*acr k else 8*acr k:=rfl
 have ix0:=fun w=>(Ybm (Yda k) (Ydd k) (Yjf k) (Yje k) w).1;have ix1:=fun w=>(Ybm (Yda k) (Ydd k) (Yjf k) (Yje k) w).2;unfold Yqe at c;clear m1 m2;by_cases h0:p=0
 ·subst h0
  replace hw:((wid k 0:Nat):Int)=Yda k:=by rw[h3];exact Int.natCast_mul 16 _
  generalize wid k 0=m at *;clear d1 w1 h3;generalize Yda k=W at *;subst hw
  go_enter Tryz.func20,Tryz.ntmps20
  go_wp2_with fail
  refine(c _).mono ?_;rintro e x1 ⟨rfl,hb1⟩
  go_wp2
  go_ret
  exact⟨rfl,hb1⟩
 ·have t:((p:Int)==0)=false:=by simp;omega
  rw[if_neg h0] at hw;rw[←hw] at d1 w1;generalize wid k p=m at *;clear hw h3 h0;generalize Yda k=W at *
  go_enter Tryz.func20,Tryz.ntmps20
  go_wp2_with fail
  refine(c _).mono ?_;rintro e x1 ⟨rfl,hb1⟩
  go_wp2
  go_ret
  exact⟨rfl,hb1⟩
set_option maxRecDepth 100000 in
set_option maxHeartbeats 1000000 in
theorem Yoy (k:Int)(p:Nat)(hp:p<3)(w:World):Calls Tryz.prog 21 #[.int .i64 k,.int .i64 (p:Int)] w fun e w'=>e=.returned (.int .i64 (hei k p:Int))∧Below w.heap.size w w':=by
 have c:=fun w=>Yc3 k w;obtain⟨-,-,-,d1⟩:=Yhu k;obtain⟨-,-,-,h3,m1,m2⟩:=Ybu k;have w1:IntKind.i64.wrap ((8*dow k:Nat):Int)=((8*dow k:Nat):Int):=Ycv (by omega);have hw:hei k p=if p=0 then 16*dow k else 8*dow k:=rfl
 have ix0:=fun w=>(Ybm (Yda k) (Ydd k) (Yjf k) (Yje k) w).1;have ix1:=fun w=>(Ybm (Yda k) (Ydd k) (Yjf k) (Yje k) w).2;unfold Yqe at c;clear m1 m2;by_cases h0:p=0
 ·subst h0
  replace hw:((hei k 0:Nat):Int)=Ydd k:=by rw[h3];exact Int.natCast_mul 16 _
  generalize hei k 0=m at *;clear d1 w1 h3;generalize Ydd k=W at *;subst hw
  go_enter Tryz.func21,Tryz.ntmps21
  go_wp2_with fail
  refine(c _).mono ?_;rintro e x1 ⟨rfl,hb1⟩
  go_wp2
  go_ret
  exact⟨rfl,hb1⟩
 ·have t:((p:Int)==0)=false:=by simp;omega
  rw[if_neg h0] at hw;rw[←hw] at d1 w1;generalize hei k p=m at *;clear hw h3 h0;generalize Ydd k=W at *
  go_enter Tryz.func21,Tryz.ntmps21
  go_wp2_with fail
  refine(c _).mono ?_;rintro e x1 ⟨rfl,hb1⟩
  go_wp2
  go_ret
  exact⟨rfl,hb1⟩
set_option maxRecDepth 100000 in
set_option maxHeartbeats 4000000 in
theorem Ym9 (k:Int)(n b i:Nat)(w:World)(hn:n<Ybr k)(hb:b<6)(hi:i<64):Calls Tryz.prog 33 #[.int .i64 k,.int .i64 (n:Int),.int .i64 (b:Int),.int .i64 (i:Int)] w fun e w'=>e=.returned (.tuple #[.int .i64 (plc b:Int),.int .i64 ((8*col k n b+i%8:Nat):Int),.int .i64 ((8*lin k n b+i / 8:Nat):Int)])∧Below w.heap.size w w':=by
 have c:=fun w=>Yf5 k w;obtain⟨-,-,-,-,h1,h2⟩:=Ybu k;obtain⟨ha,hx,hy⟩:=Yc2 hn;have hnm:=Ye9 k;have L:lin k n b=if b<4 then 2*(n / acr k)+b / 2 else n / acr k:=rfl
 have C:col k n b=if b<4 then 2*(n%acr k)+b%2 else n%acr k:=rfl
 have r1:(n:Int).tmod (acr k:Int)=((n%acr k:Nat):Int):=by rw[Int.tmod_eq_emod_of_nonneg (by omega)];rfl
 have r2:(n:Int).tdiv (acr k:Int)=((n / acr k:Nat):Int):=by rw[Int.tdiv_eq_ediv_of_nonneg (by omega)];rfl
 have hd:n / acr k≤n:=Nat.div_le_self n (acr k);have r3:IntKind.i64.wrap ((n / acr k:Nat):Int)=((n / acr k:Nat):Int):=Ya1 (by omega);have r4:(i:Int).tmod 8=((i%8:Nat):Int):=by rw[Int.tmod_eq_emod_of_nonneg (by omega)];rfl
 have r5:(i:Int).tdiv 8=((i / 8:Nat):Int):=by rw[Int.tdiv_eq_ediv_of_nonneg (by omega)];rfl
 have r6:IntKind.i64.wrap ((i / 8:Nat):Int)=((i / 8:Nat):Int):=Ya1 (by omega);have r7:(i:Int) / 8=((i / 8:Nat):Int):=rfl;have r8:(i:Int)%8=((i%8:Nat):Int):=rfl;have z0:((acr k:Int)==0)=false:=by simp;omega
 have i1:i%8<8:=Nat.mod_lt _ (by omega);have i2:i / 8<8:=by omega
 generalize lin k n b=l at *;generalize col k n b=cc at *;generalize n / acr k=y at *;generalize n%acr k=x at *;generalize i / 8=u at *;generalize i%8=v at *;have hb6:b=0∨b=1∨b=2∨b=3∨b=4∨b=5:=by omega
 clear hn hb;rcases hb6 with rfl|rfl|rfl|rfl|rfl|rfl
 case _=>
  replace L:l=2*y:=by rw[L,if_pos (by omega)];all_goals omega
  replace C:cc=2*x:=by rw[C,if_pos (by omega)];all_goals omega
  subst L C
  go_enter Tryz.func33,Tryz.ntmps33
  go_wp2_with fail
  refine(c _).mono ?_;rintro e x1 ⟨rfl,hb1⟩
  go_wp2_with fail
  refine(c _).mono ?_;rintro e x2 ⟨rfl,hb2⟩;have hbx:=hb1.trans (hb2.mono hb1.size);clear hb1 hb2
  go_wp2
  go_ret3
  exact⟨Ydq (by rfl) (by omega) (by omega),hbx⟩
 case _=>
  replace L:l=2*y:=by rw[L,if_pos (by omega)];all_goals omega
  replace C:cc=2*x+1:=by rw[C,if_pos (by omega)];all_goals omega
  subst L C
  go_enter Tryz.func33,Tryz.ntmps33
  go_wp2_with fail
  refine(c _).mono ?_;rintro e x1 ⟨rfl,hb1⟩
  go_wp2_with fail
  refine(c _).mono ?_;rintro e x2 ⟨rfl,hb2⟩;have hbx:=hb1.trans (hb2.mono hb1.size);clear hb1 hb2
  go_wp2
  go_ret3
  exact⟨Ydq (by rfl) (by omega) (by omega),hbx⟩
 case _=>
  replace L:l=2*y+1:=by rw[L,if_pos (by omega)];all_goals omega
  replace C:cc=2*x:=by rw[C,if_pos (by omega)];all_goals omega
  subst L C
  go_enter Tryz.func33,Tryz.ntmps33
  go_wp2_with fail
  refine(c _).mono ?_;rintro e x1 ⟨rfl,hb1⟩
  go_wp2_with fail
  refine(c _).mono ?_;rintro e x2 ⟨rfl,hb2⟩;have hbx:=hb1.trans (hb2.mono hb1.size);clear hb1 hb2
  go_wp2
  go_ret3
  exact⟨Ydq (by rfl) (by omega) (by omega),hbx⟩
 case _=>
  replace L:l=2*y+1:=by rw[L,if_pos (by omega)];all_goals omega
  replace C:cc=2*x+1:=by rw[C,if_pos (by omega)];all_goals omega
  subst L C
  go_enter Tryz.func33,Tryz.ntmps33
  go_wp2_with fail
  refine(c _).mono ?_;rintro e x1 ⟨rfl,hb1⟩
  go_wp2_with fail
  refine(c _).mono ?_;rintro e x2 ⟨rfl,hb2⟩;have hbx:=hb1.trans (hb2.mono hb1.size);clear hb1 hb2
  go_wp2
  go_ret3
  exact⟨Ydq (by rfl) (by omega) (by omega),hbx⟩
 case _=>
  replace L:l=y:=by rw[L,if_neg (by omega)]
  replace C:cc=x:=by rw[C,if_neg (by omega)]
  subst L C
  go_enter Tryz.func33,Tryz.ntmps33
  go_wp2_with fail
  refine(c _).mono ?_;rintro e x1 ⟨rfl,hb1⟩
  go_wp2_with fail
  refine(c _).mono ?_;rintro e x2 ⟨rfl,hb2⟩;have hbx:=hb1.trans (hb2.mono hb1.size);clear hb1 hb2
  go_wp2
  go_ret3
  exact⟨Ydq (by rfl) (by omega) (by omega),hbx⟩
 case _=>
  replace L:l=y:=by rw[L,if_neg (by omega)]
  replace C:cc=x:=by rw[C,if_neg (by omega)]
  subst L C
  go_enter Tryz.func33,Tryz.ntmps33
  go_wp2_with fail
  refine(c _).mono ?_;rintro e x1 ⟨rfl,hb1⟩
  go_wp2_with fail
  refine(c _).mono ?_;rintro e x2 ⟨rfl,hb2⟩;have hbx:=hb1.trans (hb2.mono hb1.size);clear hb1 hb2
  go_wp2
  go_ret3
  exact⟨Ydq (by rfl) (by omega) (by omega),hbx⟩
set_option maxRecDepth 100000 in
set_option maxHeartbeats 2000000 in
theorem Yhz (k:Int)(v:Nat→Value)(n p x y:Nat)(f:Nat→Int)(w:World)(hp:p<3)(hv:Ykj w (v p) n f)(hn:n≤1073741824)(h:y*wid k p+x<n):
  Calls Tryz.prog 51 #[.agg (frA k v),.int .i64 (p:Int),.int .i64 (x:Int),.int .i64 (y:Int)] w fun e w'=>e=.returned (.int .i64 (f (y*wid k p+x)))∧Below w.heap.size w w':=by
 obtain⟨a,cp,hvp,hcp,hd⟩:=hv;obtain⟨b,o,rfl,hc⟩:∃b o,a=some ⟨b,o,none⟩∧∀i,i<n→w.cell? ⟨b,o+i,none⟩=some (.int .u8 (f i))∧0≤f i∧f i≤255:=by
  rcases hd with h0|h0
  ·omega
  ·exact h0
 obtain⟨q1,q2⟩:=hc _ h;obtain⟨m,hm⟩:∃m,y*wid k p=m:=⟨_,rfl⟩;rw[hm] at h q1 q2 ⊢;have M:(y:Int)*(wid k p:Int)=(m:Int):=by rw[←hm];exact(Int.natCast_mul _ _).symm
 obtain⟨s,hs⟩:∃s,m+x=s:=⟨_,rfl⟩;rw[hs] at h q1 q2 ⊢;have S:(m:Int)+(x:Int)=(s:Int):=by omega
 have W1:IntKind.i64.wrap (m:Int)=(m:Int):=Ya1 (by omega);have W2:IntKind.i64.wrap (s:Int)=(s:Int):=Ya1 (by omega);have W3:IntKind.i64.wrap (f s)=f s:=Ycv (by omega);obtain⟨B,hB⟩:∃B,w.heap.size=B:=⟨_,rfl⟩;obtain⟨wA,hwA⟩:∃wA,w.alloc (.cells (frA k v) 25 (0,0))=wA:=⟨_,rfl⟩;have hA0:wA.heap[B]? =some (frO 25 k v):=by rw[←hwA,←hB];exact heap_alloc_new w _
 have hbA:Below B w wA:=by rw[←hwA,←hB];exact(Below.refl _ w).alloc (Nat.le_refl _) _
 have hzA:wA.heap.size=B+1:=by rw[←hwA,←hB];simp
 have hq:=World.block_lt_of_cell? w ⟨b,o+s,none⟩ q1;have HF:=Lib.hid (fun(x:World) (hx:Below (B+1) wA x)=>(⟨Ycm ((hx.block B (by omega)).trans hA0),(Ykt ((hx.block B (by omega)).trans hA0) hp).trans (by rw[hvp])⟩:x.cell? ⟨B,0,none⟩=some (.int .i64 k)∧x.cell? ⟨B,1+p,none⟩=some (.slice (some ⟨b,o,none⟩) n cp)))
 have HG:=Lib.hid (fun(x:World) (hx:Below (B+1) wA x)=>((hx.cell (p:=⟨b,o+s,none⟩) (by show b<_;rw[hB] at hq;exact Nat.lt_succ_of_lt hq)).trans ((hbA.cell (p:=⟨b,o+s,none⟩) (by rw[←hB];exact hq)).trans q1):x.cell? ⟨b,o+s,none⟩=some (.int .u8 (f s))))
 have C1:=Lib.hid (fun(x:World) (hx:Below (B+1) wA x)=>((Ykc k p hp x).mono fun e y h=>⟨h.1,hx.trans (h.2.mono (by have:=hx.size;omega))⟩:Calls Tryz.prog 20 #[.int .i64 k,.int .i64 (p:Int)] x fun e y=>e=.returned (.int .i64 (wid k p:Int))∧Below (B+1) wA y));have HWA:=Lib.hid hwA;have HB:=Lib.hid hB;have HBA:=Lib.hid hbA;generalize f s=z at *;generalize wid k p=W at *;generalize frA k v=X at *
 clear hm hc hA0 hbA hzA hq hwA hB q1 hvp hd
 go_enter Tryz.func51,Tryz.ntmps51
 go_wp2
 rw[HWA.out,HB.out];refine Yag (S:=fun x=>Below (B+1) wA x) 16 (by kernel_rfl) (by kernel_rfl) (Below.refl _ _).drew ?_;simp only[List.take_succ_cons,List.take_zero,List.drop_succ_cons,List.drop_zero];refine Yab (v:=?v0) (by kernel_rfl) ?m ?_;(case m=>(intro x _;go_simp;try with_reducible rfl));simp only[Yaa]
 refine Yab (v:=?v1) (by kernel_rfl) ?m ?_;(case m=>(intro x _;go_simp;try with_reducible rfl));simp only[Yaa];refine Yab (v:=?v2) (by kernel_rfl) ?m ?_;(case m=>(intro x _;go_simp;rw[if_pos (by omega)]));simp only[Yaa];refine Yaf 22 _ ⟨B,1+p,none⟩ (.slice (some ⟨b,o,none⟩) n cp) (by kernel_rfl) rfl rfl (fun x hx=>by have c0:=(HF.out x hx).2;go_simp) ?_;simp only[Yaa]
 refine Yab (v:=?v4) (by kernel_rfl) ?m ?_;(case m=>(intro x _;go_simp;try with_reducible rfl));simp only[Yaa];refine Yab (v:=?v5) (by kernel_rfl) ?m ?_;(case m=>(intro x _;go_simp;try with_reducible rfl));simp only[Yaa];refine Yaf 3 _ ⟨B,0,none⟩ (.int .i64 k) (by kernel_rfl) rfl rfl (fun x hx=>by have c0:=(HF.out x hx).1;go_simp) ?_;simp only[Yaa]
 refine Yab (v:=?v7) (by kernel_rfl) ?m ?_;(case m=>(intro x _;go_simp;try with_reducible rfl));simp only[Yaa];refine Yai (by kernel_rfl) C1.out (fun _=>by kernel_rfl) ?_;simp only[Yaa];refine Yab (v:=?v9) (by kernel_rfl) ?m ?_;(case m=>(intro x _;go_simp;try with_reducible rfl));simp only[Yaa];refine Yab (v:=?v10) (by kernel_rfl) ?m ?_;(case m=>(intro x _;go_simp;try with_reducible rfl))
 simp only[Yaa];refine Yab (v:=?v11) (by kernel_rfl) ?m ?_;(case m=>(intro x _;go_simp;try with_reducible rfl));simp only[Yaa];refine Yab (v:=?v12) (by kernel_rfl) ?m ?_;(case m=>(intro x _;go_simp;try with_reducible rfl));simp only[Yaa];refine Yaf 5 _ ⟨b,o+s,none⟩ (.int .u8 z) (by kernel_rfl) rfl rfl (fun x hx=>by have c0:=(HG.out x hx);go_simp) ?_;simp only[Yaa]
 refine Yab (v:=?v14) (by kernel_rfl) ?m ?_;(case m=>(intro x _;go_simp;try with_reducible rfl));simp only[Yaa];refine Yab (v:=?v15) (by kernel_rfl) ?m ?_;(case m=>(intro x _;go_simp;try with_reducible rfl));simp only[Yaa];refine Yar fun x hx=>?_
 go_wp2
 go_ret
 exact⟨rfl,by rw[HB.out];exact HBA.out.trans (hx.mono (by omega))⟩
def Ygv (a:Int):Int:=2*(a / 4)+if a%4=0 then 0 else 1
def Yfi (v:Int):Int:=if Ya4 v (-64) 64<0 then -Ygv (-Ya4 v (-64) 64) else Ygv (Ya4 v (-64) 64)
theorem Yh7 {a:Int}(h0:0≤a)(h1:a≤64):0≤Ygv a∧Ygv a≤32:=by unfold Ygv;split <;> omega
theorem Yoa (v:Int):-32≤Yfi v∧Yfi v≤32:=by
 have h1:=Ybp v (-64) 64;have h2:=Ybo v (-64) 64 (by omega);unfold Yfi
 split
 ·have:=Yh7 (a:=-Ya4 v (-64) 64) (by omega) (by omega);omega
 ·have:=Yh7 (a:=Ya4 v (-64) 64) (by omega) (by omega);omega
theorem Ysx {v:Int}(h1:-64≤v)(h2:v≤64):Yfi v=if v<0 then -Ygv (-v) else Ygv v:=by unfold Yfi;rw[Yga v _ _ h1 h2]
set_option maxHeartbeats 1000000 in
theorem Yi5 (a:Int)(w:World)(h0:0≤a)(h1:a≤64):Calls Tryz.prog 48 #[.int .i64 a] w fun e w'=>e=.returned (.int .i64 (Ygv a))∧w=w':=by
 have c:=fun w=>Ybh a (-64) 64 w;rw[Yga a (-64) 64 (by omega) h1] at c;have t0:decide (a<0)=false:=by simp;omega
 have q1:a.tdiv 4=a / 4:=Int.tdiv_eq_ediv_of_nonneg h0;have q2:a.tmod 4=a%4:=Int.tmod_eq_emod_of_nonneg h0;have u1:0≤a / 4:=by omega
 have u2:a / 4≤16:=by omega
 have wu:IntKind.i64.wrap (a / 4)=a / 4:=Ycv (by omega);have hz:=Lib.hid (show Ygv a=2*(a / 4)+if a%4=0 then 0 else 1 from rfl);generalize Ygv a=z at *;generalize a / 4=u at *;by_cases hr:a%4=0
 ·rw[if_pos hr] at hz;rw[hr] at q2;clear hr
  go_enter Tryz.func48,Tryz.ntmps48
  go_wp2_with (with_reducible refine(c _).mono ?_;rintro e w1 ⟨rfl,rfl⟩)
  go_ret
  exact⟨Yav (by have:=hz.out;omega),rfl⟩
 ·rw[if_neg hr] at hz;have t1:(a%4 != 0)=true:=by simpa [bne] using hr
  generalize a%4=r at *;clear hr
  go_enter Tryz.func48,Tryz.ntmps48
  go_wp2_with (with_reducible refine(c _).mono ?_;rintro e w1 ⟨rfl,rfl⟩)
  go_ret
  exact⟨Yav (by have:=hz.out;omega),rfl⟩
theorem Yf8 (v:Int)(w:World):Calls Tryz.prog 48 #[.int .i64 v] w fun e w'=>e=.returned (.int .i64 (Yfi v))∧w=w':=by
 have c:=fun w=>Ybh v (-64) 64 w;have h1:=Ybp v (-64) 64;have h2:=Ybo v (-64) 64 (by omega);have hz:=Lib.hid (show Yfi v=if Ya4 v (-64) 64<0 then -Ygv (-Ya4 v (-64) 64) else Ygv (Ya4 v (-64) 64) from rfl);generalize Yfi v=z at *;generalize Ya4 v (-64) 64=a at *;by_cases h0:a<0
 ·rw[if_pos h0] at hz;have c2:=fun w=>Yi5 (-a) w (by omega) (by omega);have t0:decide (a<0)=true:=by simpa using h0
  have q:=Yh7 (a:=-a) (by omega) (by omega);generalize Ygv (-a)=y at *;clear h0
  go_enter Tryz.func48,Tryz.ntmps48
  go_wp2_with (first|(with_reducible refine(c _).mono ?_;rintro e w1 ⟨rfl,rfl⟩)|(with_reducible refine(c2 _).mono ?_;rintro e w1 ⟨rfl,rfl⟩))
  go_ret
  exact⟨Yav hz.out.symm,rfl⟩
 ·rw[if_neg h0] at hz;have t0:decide (a<0)=false:=by simpa using h0
  have q1:a.tdiv 4=a / 4:=Int.tdiv_eq_ediv_of_nonneg (by omega);have q2:a.tmod 4=a%4:=Int.tmod_eq_emod_of_nonneg (by omega);have u1:0≤a / 4:=by omega
  have u2:a / 4≤16:=by omega
  have wu:IntKind.i64.wrap (a / 4)=a / 4:=Ycv (by omega);have hy:=Lib.hid (show Ygv a=2*(a / 4)+if a%4=0 then 0 else 1 from rfl);rw[hy.out] at hz;clear hy;generalize a / 4=u at *;by_cases hr:a%4=0
  ·rw[if_pos hr] at hz;rw[hr] at q2;clear hr h0
   go_enter Tryz.func48,Tryz.ntmps48
   go_wp2_with (with_reducible refine(c _).mono ?_;rintro e w1 ⟨rfl,rfl⟩)
   go_ret
   exact⟨Yav (by have:=hz.out;omega),rfl⟩
  ·rw[if_neg hr] at hz;have t1:(a%4 != 0)=true:=by simpa [bne] using hr
   generalize a%4=r at *;clear hr h0
   go_enter Tryz.func48,Tryz.ntmps48
   go_wp2_with (with_reducible refine(c _).mono ?_;rintro e w1 ⟨rfl,rfl⟩)
   go_ret
   exact⟨Yav (by have:=hz.out;omega),rfl⟩
set_option maxHeartbeats 2000000 in
theorem Ymp (a:Int)(w:World)(h0:0≤a)(h1:a≤64):Calls Tryz.prog 35 #[.int .i64 a] w fun e w'=>e=.returned (.int .i64 (Ygv a))∧w=w':=by
 have c:=fun w=>Ybi a (-64) 64 w;rw[Yga a (-64) 64 (by omega) h1] at c;have t0:decide (a<0)=false:=by simp;omega
 have q2:a.tmod 4=a%4:=Int.tmod_eq_emod_of_nonneg h0;have hz:=Lib.hid (show Ygv a=2*(a / 4)+if a%4=0 then 0 else 1 from rfl);generalize Ygv a=z at *
 go_enter Tryz.func35,Tryz.ntmps35
 go_wp2_with (with_reducible refine(c _).mono ?_;rintro e w1 ⟨rfl,rfl⟩)
 go_loopw [3] (fun z wr=>∃j:Nat,z=.int .i64 (2*(j:Int))∧4*(j:Int)≤a∧wr=w) (fun z _=>64-(RowKit.intOf z).toNat)
 case atStart=>exact⟨0,rfl,by omega,rfl⟩
 case round=>
  obtain⟨j,rfl,hj,rfl⟩:=hrel;have e1:(2*(j:Int)).tdiv 2=(j:Int):=by rw[Int.tdiv_eq_ediv_of_nonneg (by omega)];omega
  have e2:IntKind.i64.wrap (j:Int)=(j:Int):=Ycv (by omega);by_cases hlt:4*(j:Int)+4≤a
  ·have t2:decide (4*(j:Int)+4≤a)=true:=decide_eq_true hlt
   go_wp2
   go_roundw
   case rel=>exact⟨j+1,by go_num,by omega,trivial⟩
   case measure=>simp[RowKit.intOf];omega
  ·have t2:decide (4*(j:Int)+4≤a)=false:=decide_eq_false hlt;have hq:a / 4=(j:Int):=by omega
   rw[hq] at hz;clear hq hlt;by_cases hr:a%4=0
   ·rw[if_pos hr] at hz;rw[hr] at q2;clear hr
    go_wp2
    go_ret
    exact⟨Yav (by have:=hz.out;omega),rfl⟩
   ·rw[if_neg hr] at hz;have t1:(a%4 != 0)=true:=by simpa [bne] using hr
    generalize a%4=r at *;clear hr
    go_wp2
    go_ret
    exact⟨Yav (by have:=hz.out;omega),rfl⟩
set_option maxHeartbeats 2000000 in
theorem Yi6 (v:Int)(w:World):Calls Tryz.prog 35 #[.int .i64 v] w fun e w'=>e=.returned (.int .i64 (Yfi v))∧w=w':=by
 have c:=fun w=>Ybi v (-64) 64 w;have h1:=Ybp v (-64) 64;have h2:=Ybo v (-64) 64 (by omega);have hz:=Lib.hid (show Yfi v=if Ya4 v (-64) 64<0 then -Ygv (-Ya4 v (-64) 64) else Ygv (Ya4 v (-64) 64) from rfl);generalize Yfi v=z at *;generalize Ya4 v (-64) 64=a at *;by_cases h0:a<0
 ·rw[if_pos h0] at hz;have c2:=fun w=>Ymp (-a) w (by omega) (by omega);have t0:decide (a<0)=true:=by simpa using h0
  have q:=Yh7 (a:=-a) (by omega) (by omega);generalize Ygv (-a)=y at *;clear h0
  go_enter Tryz.func35,Tryz.ntmps35
  go_wp2_with (first|(with_reducible refine(c _).mono ?_;rintro e w1 ⟨rfl,rfl⟩)|(with_reducible refine(c2 _).mono ?_;rintro e w1 ⟨rfl,rfl⟩))
  go_ret
  exact⟨Yav hz.out.symm,rfl⟩
 ·rw[if_neg h0] at hz;have t0:decide (a<0)=false:=by simpa using h0
  have q2:a.tmod 4=a%4:=Int.tmod_eq_emod_of_nonneg (by omega);have hy:=Lib.hid (show Ygv a=2*(a / 4)+if a%4=0 then 0 else 1 from rfl);rw[hy.out] at hz;clear hy
  go_enter Tryz.func35,Tryz.ntmps35
  go_wp2_with (with_reducible refine(c _).mono ?_;rintro e w1 ⟨rfl,rfl⟩)
  go_loopw [3] (fun z wr=>∃j:Nat,z=.int .i64 (2*(j:Int))∧4*(j:Int)≤a∧wr=w) (fun z _=>64-(RowKit.intOf z).toNat)
  case atStart=>exact⟨0,rfl,by omega,rfl⟩
  case round=>
   obtain⟨j,rfl,hj,rfl⟩:=hrel;have e1:(2*(j:Int)).tdiv 2=(j:Int):=by rw[Int.tdiv_eq_ediv_of_nonneg (by omega)];omega
   have e2:IntKind.i64.wrap (j:Int)=(j:Int):=Ycv (by omega);by_cases hlt:4*(j:Int)+4≤a
   ·have t2:decide (4*(j:Int)+4≤a)=true:=decide_eq_true hlt
    go_wp2
    go_roundw
    case rel=>exact⟨j+1,by go_num,by omega,trivial⟩
    case measure=>simp[RowKit.intOf];omega
   ·have t2:decide (4*(j:Int)+4≤a)=false:=decide_eq_false hlt;have hq:a / 4=(j:Int):=by omega
    rw[hq] at hz;clear hq hlt;by_cases hr:a%4=0
    ·rw[if_pos hr] at hz;rw[hr] at q2;clear hr
     go_wp2
     go_ret
     exact⟨Yav (by have:=hz.out;omega),rfl⟩
    ·rw[if_neg hr] at hz;have t1:(a%4 != 0)=true:=by simpa [bne] using hr
     generalize a%4=r at *;clear hr
     go_wp2
     go_ret
     exact⟨Yav (by have:=hz.out;omega),rfl⟩
theorem Yge (k n:Int)(w:World):Calls Tryz.prog 43 #[.int .i64 k,.int .i64 n] w fun e w'=>e=.returned (.bool (Yjk k n))∧w=w':=by
 have c:=fun w=>Yem k w;obtain⟨h1,h2,_⟩:=Ybu k;rw[←h1,←h2] at c;have hs:(acr k:Int)*(dow k:Int)=(Ybr k:Int):=(Int.natCast_mul _ _).symm;have hw:IntKind.i64.wrap (Ybr k:Int)=(Ybr k:Int):=Ycv (by have:=Ye9 k;omega);have hq:=Lib.hid (show Yjk k n=(decide (0≤n)&&decide (n<(Ybr k:Int))) from rfl);generalize Yjk k n=y at *;clear h1 h2;generalize acr k=a at *;generalize dow k=b at *
 generalize Ybr k=m at *;cases t0:decide (0≤n)
 ·rw[t0] at hq
  go_enter Tryz.func43,Tryz.ntmps43
  go_wp2_with (with_reducible refine(c _).mono ?_;rintro e w1 ⟨rfl,rfl⟩)
  go_ret
  exact⟨Yac (by rw[hq.out];rfl),rfl⟩
 ·rw[t0] at hq
  go_enter Tryz.func43,Tryz.ntmps43
  go_wp2_with (with_reducible refine(c _).mono ?_;rintro e w1 ⟨rfl,rfl⟩)
  go_ret
  exact⟨Yac (by rw[hq.out];rfl),rfl⟩
theorem Yhk (c m:Nat)(v:Int)(w:World)(hc:c≤1000)(hm:m≤1000):Calls Tryz.prog 70 #[.int .i64 (c:Int),.int .i64 (m:Int),.int .i64 v] w fun e w'=>e=.returned (.bool (Ybe c m v))∧w=w':=by
 have hq:=Lib.hid (show Ybe c m v=(decide (-32≤v∧v≤31)&&decide (0≤32*(c:Int)+v∧32*(c:Int)+v+30≤32*(m:Int)-2)) from rfl);generalize Ybe c m v=y at *;by_cases h1:v < -32
 ·have t1:decide (v < -32)=true:=decide_eq_true h1;rw[decide_eq_false (show ¬ (-32≤v∧v≤31) by omega)] at hq
  go_enter Tryz.func70,Tryz.ntmps70
  go_wp2
  go_ret
  exact⟨Yac (by rw[hq.out];rfl),rfl⟩
 have t1:decide (v < -32)=false:=decide_eq_false h1;by_cases h2:31<v
 ·have t2:decide (31<v)=true:=decide_eq_true h2;rw[decide_eq_false (show ¬ (-32≤v∧v≤31) by omega)] at hq
  go_enter Tryz.func70,Tryz.ntmps70
  go_wp2
  go_ret
  exact⟨Yac (by rw[hq.out];rfl),rfl⟩
 have t2:decide (31<v)=false:=decide_eq_false h2;rw[decide_eq_true (show -32≤v∧v≤31 by omega)] at hq;by_cases h3:0≤32*(c:Int)+v
 ·have t3:decide (0≤32*(c:Int)+v)=true:=decide_eq_true h3;have hr:decide (0≤32*(c:Int)+v∧32*(c:Int)+v+30≤32*(m:Int)-2)=decide (32*(c:Int)+v+30≤2*(16*(m:Int)-1)):=by
   by_cases h:32*(c:Int)+v+30≤2*(16*(m:Int)-1)
   ·rw[decide_eq_true h,decide_eq_true];omega
   ·rw[decide_eq_false h,decide_eq_false];omega
  rw[hr] at hq;clear hr
  go_enter Tryz.func70,Tryz.ntmps70
  go_wp2
  go_ret
  exact⟨Yac (by rw[hq.out];rfl),rfl⟩
 ·have t3:decide (0≤32*(c:Int)+v)=false:=decide_eq_false h3;rw[decide_eq_false (show ¬ (0≤32*(c:Int)+v∧32*(c:Int)+v+30≤32*(m:Int)-2) by omega)] at hq
  go_enter Tryz.func70,Tryz.ntmps70
  go_wp2
  go_ret
  exact⟨Yac (by rw[hq.out];rfl),rfl⟩
theorem Yh6 {k:Int}{n:Nat}(h:n<Ybr k):(n:Int).tmod (acr k:Int)=((n%acr k:Nat):Int)∧(n:Int).tdiv (acr k:Int)=((n / acr k:Nat):Int)∧IntKind.i64.wrap ((n / acr k:Nat):Int)=((n / acr k:Nat):Int)∧((acr k:Int)==0)=false∧n%acr k<acr k∧n / acr k<dow k∧acr k≤88∧dow k≤72:=by
 obtain⟨h0,h1,h2⟩:=Yc2 h;obtain⟨-,-,-,-,h3,h4⟩:=Ybu k;refine⟨by rw[Int.tmod_eq_emod_of_nonneg (by omega)];rfl,by rw[Int.tdiv_eq_ediv_of_nonneg (by omega)];rfl,Ya1 (by omega),by simp;omega,h1,h2,h3,h4⟩
set_option maxRecDepth 100000 in
set_option maxHeartbeats 2000000 in
theorem Ylz (k n a b:Int)(w:World):Calls Tryz.prog 44 #[.int .i64 k,.int .i64 n,.agg (Yeq a b)] w fun e w'=>e=.returned (.bool (Ygj k n a b))∧Below w.heap.size w w':=by
 have c1:=fun w=>Yge k n w;have c2:=fun w=>Yem k w;obtain⟨e1,e2,-⟩:=Ybu k;rw[←e1,←e2] at c2;clear e1 e2;have hq:=Lib.hid (show Ygj k n a b=(Yjk k n&&(Ybe (n.toNat%acr k) (acr k) a&&Ybe (n.toNat / acr k) (dow k) b)) from rfl);generalize Ygj k n a b=y at *;obtain⟨B,hB⟩:∃B,w.heap.size=B:=⟨_,rfl⟩;obtain⟨wA,hwA⟩:∃wA,w.alloc (.cells (Yeq a b) 26 (0,0))=wA:=⟨_,rfl⟩
 have hA:wA.heap[B]? =some (.cells (Yeq a b) 26 (0,0)):=by rw[←hwA,←hB];exact heap_alloc_new w _
 have hz:wA.heap.size=B+1:=by rw[←hwA,←hB];simp
 have HC:=Lib.hid (fun(x:World) (hx:Below (B+1) wA x)=>Yhp ((hx.block B (by omega)).trans hA));have hb:Below w.heap.size w wA:=by rw[←hwA];exact(Below.refl _ w).alloc (Nat.le_refl _) _
 have HE:=Lib.hid (fun(x:World) (hx:Below (B+1) wA x)=>(hb.trans (hx.mono (by omega)):Below w.heap.size w x));unfold Yeq at *;have HWA:=Lib.hid hwA;have HB:=Lib.hid hB;clear hA hz hb hwA hB;cases hc:Yjk k n with
 |false=>
  rw[hc] at c1 hq;clear hc
  go_enter Tryz.func44,Tryz.ntmps44
  go_wp2_with (first|(with_reducible refine(c1 _).mono ?_;rintro e w1 ⟨rfl,rfl⟩)|(with_reducible refine(c2 _).mono ?_;rintro e w1 ⟨rfl,rfl⟩))
  go_ret
  exact⟨Yac (by rw[hq.out];rfl),by rw[HWA.out];exact HE.out _ (Below.refl _ _)⟩
 |true=>
  rw[hc] at c1 hq;obtain⟨q0,q1⟩:=Ydg.1 hc;obtain⟨q,rfl⟩:∃q:Nat,n=(q:Int):=⟨n.toNat,by omega⟩;rw[Int.toNat_natCast] at hq q1;obtain⟨r1,r2,r3,z0,m1,m2,m3,m4⟩:=Yh6 q1;have C3:=Lib.hid (fun x (hx:Below (B+1) wA x)=>(Yhk (q%acr k) (acr k) a x (by omega) (by omega)).mono fun e y h=>(⟨h.1,h.2▸hx⟩:e=.returned (.bool (Ybe (q%acr k) (acr k) a))∧Below (B+1) wA y))
  have C4:=Lib.hid (fun x (hx:Below (B+1) wA x)=>(Yhk (q / acr k) (dow k) b x (by omega) (by omega)).mono fun e y h=>(⟨h.1,h.2▸hx⟩:e=.returned (.bool (Ybe (q / acr k) (dow k) b))∧Below (B+1) wA y));clear hc q1 q0;generalize q%acr k=u at *;generalize q / acr k=v at *;generalize acr k=A at *;generalize dow k=D at *;cases hx:Ybe u A a with
  |false=>
   rw[hx] at C3 hq
   go_enter Tryz.func44,Tryz.ntmps44
   go_wp2_with (first|(with_reducible refine(c1 _).mono ?_;rintro e w1 ⟨rfl,rfl⟩)|(with_reducible refine(c2 _).mono ?_;rintro e w1 ⟨rfl,rfl⟩))
   rw[HWA.out,HB.out];refine Yag (S:=fun x=>Below (B+1) wA x) 17 (by kernel_rfl) (by kernel_rfl) (Below.refl _ _).drew ?_;simp only[List.take_succ_cons,List.take_zero,List.drop_succ_cons,List.drop_zero];refine Yab (v:=?vp0) (by kernel_rfl) ?m ?_;(case m=>(intro x _;go_simp;try with_reducible rfl));simp only[Yaa]
   refine Yab (v:=?vp1) (by kernel_rfl) ?m ?_;(case m=>(intro x _;go_simp;try with_reducible rfl));simp only[Yaa];refine Yab (v:=?vp2) (by kernel_rfl) ?m ?_;(case m=>(intro x _;go_simp;rw[if_neg (by omega)]));simp only[Yaa];refine Yab (v:=?vp3) (by kernel_rfl) ?m ?_;(case m=>(intro x _;go_simp;try with_reducible rfl));simp only[Yaa]
   refine Yab (v:=?vp4) (by kernel_rfl) ?m ?_;(case m=>(intro x _;go_simp;try with_reducible rfl));simp only[Yaa];refine Yaf 3 _ ⟨B,0,none⟩ (.int .i64 a) (by kernel_rfl) rfl rfl (fun x hx=>by have c0:=(HC.out x hx).1;go_simp) ?_;simp only[Yaa];refine Yai (by kernel_rfl) C3.out (fun _=>by kernel_rfl) ?_;simp only[Yaa]
   refine Yab (v:=?vp7) (by kernel_rfl) ?m ?_;(case m=>(intro x _;go_simp;try with_reducible rfl));simp only[Yaa];refine Ybk (by kernel_rfl) ?_;simp only[Yaa];refine Ybk (by kernel_rfl) ?_;simp only[Yaa];refine Ybk (by kernel_rfl) ?_;simp only[Yaa];refine Ybk (by kernel_rfl) ?_;simp only[Yaa];refine Ybk (by kernel_rfl) ?_;simp only[Yaa];refine Ybk (by kernel_rfl) ?_;simp only[Yaa]
   refine Ybk (by kernel_rfl) ?_;simp only[Yaa];refine Yab (v:=?vp15) (by kernel_rfl) ?m ?_;(case m=>(intro x _;go_simp;try with_reducible rfl));simp only[Yaa];refine Yab (v:=?vp16) (by kernel_rfl) ?m ?_;(case m=>(intro x _;go_simp;try with_reducible rfl));simp only[Yaa];refine Yar fun x hx=>?_
   go_wp2
   go_ret
   exact⟨Yac (by rw[hq.out];rfl),HE.out _ hx⟩
  |true=>
   rw[hx] at C3 hq
   go_enter Tryz.func44,Tryz.ntmps44
   go_wp2_with (first|(with_reducible refine(c1 _).mono ?_;rintro e w1 ⟨rfl,rfl⟩)|(with_reducible refine(c2 _).mono ?_;rintro e w1 ⟨rfl,rfl⟩))
   rw[HWA.out,HB.out];refine Yag (S:=fun x=>Below (B+1) wA x) 17 (by kernel_rfl) (by kernel_rfl) (Below.refl _ _).drew ?_;simp only[List.take_succ_cons,List.take_zero,List.drop_succ_cons,List.drop_zero];refine Yab (v:=?vq0) (by kernel_rfl) ?m ?_;(case m=>(intro x _;go_simp;try with_reducible rfl));simp only[Yaa]
   refine Yab (v:=?vq1) (by kernel_rfl) ?m ?_;(case m=>(intro x _;go_simp;try with_reducible rfl));simp only[Yaa];refine Yab (v:=?vq2) (by kernel_rfl) ?m ?_;(case m=>(intro x _;go_simp;rw[if_neg (by omega)]));simp only[Yaa];refine Yab (v:=?vq3) (by kernel_rfl) ?m ?_;(case m=>(intro x _;go_simp;try with_reducible rfl));simp only[Yaa]
   refine Yab (v:=?vq4) (by kernel_rfl) ?m ?_;(case m=>(intro x _;go_simp;try with_reducible rfl));simp only[Yaa];refine Yaf 3 _ ⟨B,0,none⟩ (.int .i64 a) (by kernel_rfl) rfl rfl (fun x hx=>by have c0:=(HC.out x hx).1;go_simp) ?_;simp only[Yaa];refine Yai (by kernel_rfl) C3.out (fun _=>by kernel_rfl) ?_;simp only[Yaa]
   refine Yab (v:=?vq7) (by kernel_rfl) ?m ?_;(case m=>(intro x _;go_simp;try with_reducible rfl));simp only[Yaa];refine Yab (v:=?vq8) (by kernel_rfl) ?m ?_;(case m=>(intro x _;go_simp;try with_reducible rfl));simp only[Yaa];refine Yab (v:=?vq9) (by kernel_rfl) ?m ?_;(case m=>(intro x _;go_simp;try with_reducible rfl));simp only[Yaa]
   refine Yab (v:=?vq10) (by kernel_rfl) ?m ?_;(case m=>(intro x _;go_simp;rw[if_neg (by omega)]));simp only[Yaa];refine Yab (v:=?vq11) (by kernel_rfl) ?m ?_;(case m=>(intro x _;go_simp;try with_reducible rfl));simp only[Yaa];refine Yab (v:=?vq12) (by kernel_rfl) ?m ?_;(case m=>(intro x _;go_simp;try with_reducible rfl));simp only[Yaa]
   refine Yaf 3 _ ⟨B,1,none⟩ (.int .i64 b) (by kernel_rfl) rfl rfl (fun x hx=>by have c0:=(HC.out x hx).2;go_simp) ?_;simp only[Yaa];refine Yai (by kernel_rfl) C4.out (fun _=>by kernel_rfl) ?_;simp only[Yaa];refine Yab (v:=?vq15) (by kernel_rfl) ?m ?_;(case m=>(intro x _;go_simp;try with_reducible rfl));simp only[Yaa]
   refine Yab (v:=?vq16) (by kernel_rfl) ?m ?_;(case m=>(intro x _;go_simp;try with_reducible rfl));simp only[Yaa];refine Yar fun x hx=>?_
   go_wp2
   go_ret
   exact⟨Yac (by rw[hq.out];rfl),HE.out _ hx⟩
def Yjj (f:Nat→Int)(W x y:Nat):Int:=(f (y / 2*W+x / 2)+f (y / 2*W+x / 2+x%2)+(f (y / 2*W+x / 2+y%2*W)+f (y / 2*W+x / 2+y%2*W+x%2))+2) / 4
theorem Ynf {s:Int}(h0:0≤s)(h1:s≤1020):round s 2=(s+2) / 4:=by
 unfold round;rw[Yga s _ _ (by omega) (by omega),if_neg (by decide +kernel)]
 rfl
def Yde (w:World)(lo:Nat)(c v:Value)(W:Nat):Prop:=∃r1 r2,c=.func (.func 73) #[] #[.pointer (some ⟨r1,0,none⟩),.pointer (some ⟨r2,0,none⟩)]∧w.cell? ⟨r1,0,none⟩=some (.int .i64 (W:Int))∧w.cell? ⟨r2,0,none⟩=some v∧lo≤r1∧lo≤r2
theorem Yde.below {w w':World}{lo:Nat}{c v:Value}{W:Nat}(h:Yde w lo c v W)(hb:Below w.heap.size w w'):Yde w' lo c v W:=by
 obtain⟨r1,r2,rfl,h1,h2,h3⟩:=h;exact⟨r1,r2,rfl,(hb.cell (p:=⟨r1,0,none⟩) (World.block_lt_of_cell? w ⟨r1,0,none⟩ h1)).trans h1,(hb.cell (p:=⟨r2,0,none⟩) (World.block_lt_of_cell? w ⟨r2,0,none⟩ h2)).trans h2,h3⟩
theorem Yde.grown {w w':World}{lo b:Nat}{c v:Value}{W:Nat}(h:Yde w lo c v W)(hg:w.grownBy w' (some b))(hb:b<lo):Yde w' lo c v W:=by
 obtain⟨r1,r2,rfl,h1,h2,h3,h4⟩:=h;have k1:=hg.block r1 (World.block_lt_of_cell? w ⟨r1,0,none⟩ h1) (by intro e;injection e with e;omega);have k2:=hg.block r2 (World.block_lt_of_cell? w ⟨r2,0,none⟩ h2) (by intro e;injection e with e;omega);exact⟨r1,r2,rfl,(World.cell?_of_block (a:=⟨r1,0,none⟩) k1).trans h1,(World.cell?_of_block (a:=⟨r2,0,none⟩) k2).trans h2,h3,h4⟩
theorem Yde.mono {w:World}{lo lo':Nat}{c v:Value}{W:Nat}(h:Yde w lo c v W)(hl:lo'≤lo):Yde w lo' c v W:=by
 obtain⟨r1,r2,rfl,h1,h2,h3,h4⟩:=h;exact⟨r1,r2,rfl,h1,h2,by omega,by omega⟩
set_option maxRecDepth 100000 in
set_option maxHeartbeats 4000000 in
theorem Ypf (k:Int)(v:Nat→Value)(p:Nat)(w:World)(hp:p<3)(hv:∀p,p<3→∃a n c,v p=.slice a n c):
  Calls Tryz.prog 46 #[.agg (frA k v),.int .i64 (p:Int)] w fun e w'=>∃c,e=.returned c∧Yde w' w.heap.size c (v p) (wid k p)∧Below w.heap.size w w':=by
 have cP:=fun w=>Ygd k p w;rw[Yot k p hp] at cP;obtain⟨B,hB⟩:∃B,w.heap.size=B:=⟨_,rfl⟩;obtain⟨wA,hwA⟩:∃wA,w.alloc (.cells (frA k v) 25 (0,0))=wA:=⟨_,rfl⟩;have hA:wA.heap[B]? =some (frO 25 k v):=by rw[←hwA,←hB];exact heap_alloc_new w _
 have hz:wA.heap.size=B+1:=by rw[←hwA,←hB];simp
 have hb:Below B w wA:=by rw[←hwA,←hB];exact(Below.refl _ w).alloc (Nat.le_refl _) _
 have hmf:∀(fn:Fn) (first cap:Array Value) (w:World),(Instr.makeFunc fn first cap).run Tryz.prog w=.ok (.func fn first cap) w:=fun _ _ _ _=>rfl;have hc0:=Ycm hA;have hcp:=Ykt hA hp;obtain⟨ad,nn,cc,hvp⟩:=hv p hp;rw[hvp] at hcp ⊢;generalize wid k p=W at *;generalize hei k p=H at *;have HWA:=Lib.hid hwA;have HB:=Lib.hid hB;clear hwA hB hA hvp
 go_enter Tryz.func46,Tryz.ntmps46
 go_wp2_with (first|(with_reducible refine(cP _).mono ?_;rintro e w1 ⟨rfl,rfl⟩)|rw[HWA.out,HB.out])
 go_ret
 have hq:=(Below.refl B wA).alloc (by omega) (.cells #[.slice ad nn cc] 22 (0,0));have hq2:=hq.alloc (by simp;omega) (.cells #[.int .i64 (W:Int)] 3 (0,0));rw[HB.out];refine⟨_,rfl,⟨B+1+1,B+1,rfl,?_,?_,by omega,by omega⟩,hb.trans hq2⟩
 ·exact Yae (cs:=[.int .i64 (W:Int)]) (by rw[←hz];have:=heap_alloc_new (wA.alloc (.cells #[.slice ad nn cc] 22 (0,0))) (.cells #[.int .i64 (W:Int)] 3 (0,0));simpa using this) rfl
 ·exact Yae (cs:=[.slice ad nn cc]) (by rw[←hz];exact Yao (heap_alloc_new wA _)) rfl
set_option maxRecDepth 100000 in
set_option maxHeartbeats 4000000 in
theorem You (r1 r2 b o n c W x y:Nat)(f:Nat→Int)(w:World)(h1:w.cell? ⟨r1,0,none⟩=some (.int .i64 (W:Int)))(h2:w.cell? ⟨r2,0,none⟩=some (.slice (some ⟨b,o,none⟩) n c))(hn:n≤1073741824)(hy:y≤10000)
  (hf:∀i,i<n→w.cell? ⟨b,o+i,none⟩=some (.int .u8 (f i))∧0≤f i∧f i≤255)(hin:y / 2*W+x / 2+y%2*W+x%2<n):
  Calls Tryz.prog 73 #[.int .i64 (x:Int),.int .i64 (y:Int),.pointer (some ⟨r1,0,none⟩),.pointer (some ⟨r2,0,none⟩)] w fun e w'=>e=.returned (.int .i64 (Yjj f W x y))∧Below w.heap.size w w':=by
 have e1:(x:Int).tmod 2=((x%2:Nat):Int):=by rw[Int.tmod_eq_emod_of_nonneg (by omega)];rfl
 have e2:(y:Int).tmod 2=((y%2:Nat):Int):=by rw[Int.tmod_eq_emod_of_nonneg (by omega)];rfl
 have e3:(x:Int).tdiv 2=((x / 2:Nat):Int):=by rw[Int.tdiv_eq_ediv_of_nonneg (by omega)];rfl
 have e4:(y:Int).tdiv 2=((y / 2:Nat):Int):=by rw[Int.tdiv_eq_ediv_of_nonneg (by omega)];rfl
 have b1:x%2≤1:=by omega
 have b2:y%2≤1:=by omega
 have hq:=Lib.hid (show Yjj f W x y=(f (y / 2*W+x / 2)+f (y / 2*W+x / 2+x%2)+(f (y / 2*W+x / 2+y%2*W)+f (y / 2*W+x / 2+y%2*W+x%2))+2) / 4 from rfl);generalize Yjj f W x y=res at *;generalize x%2=xr at *;generalize x / 2=xq at *;generalize hyr:y%2=yr at *;generalize hyq:y / 2=yq at *;have hyq2:yq≤10000:=by omega
 clear hyr hyq;obtain⟨mb,hmb⟩:∃mb,yr*W=mb:=⟨_,rfl⟩;obtain⟨m,hm⟩:∃m,yq*W=m:=⟨_,rfl⟩;have M1:(yr:Int)*(W:Int)=(mb:Int):=by rw[←hmb];exact(Int.natCast_mul _ _).symm
 have M2:(yq:Int)*(W:Int)=(m:Int):=by rw[←hm];exact(Int.natCast_mul _ _).symm
 rw[hm,hmb] at hin hq;clear hm hmb;obtain⟨A,hA⟩:∃A,m+xq=A:=⟨_,rfl⟩;rw[hA] at hin hq;have M3:(m:Int)+(xq:Int)=(A:Int):=by omega
 have u1:IntKind.i64.wrap (mb:Int)=(mb:Int):=Ya1 (by omega);have u2:IntKind.i64.wrap (m:Int)=(m:Int):=Ya1 (by omega);have u3:IntKind.i64.wrap (xq:Int)=(xq:Int):=Ya1 (by omega);have u5:IntKind.i64.wrap (A:Int)=(A:Int):=Ya1 (by omega);have u4:IntKind.i64.wrap (yq:Int)=(yq:Int):=Ya1 (by omega);obtain⟨p0,q0⟩:=hf A (by omega);obtain⟨p1,q1⟩:=hf (A+xr) (by omega);obtain⟨p2,q2⟩:=hf (A+mb) (by omega)
 obtain⟨p3,q3⟩:=hf (A+mb+xr) (by omega);obtain⟨s1,hs1⟩:∃s,A+xr=s:=⟨_,rfl⟩;obtain⟨s2,hs2⟩:∃s,A+mb=s:=⟨_,rfl⟩;obtain⟨s3,hs3⟩:∃s,A+mb+xr=s:=⟨_,rfl⟩;have v1:(A:Int)+(xr:Int)=(s1:Int):=by omega
 have v2:(A:Int)+(mb:Int)=(s2:Int):=by omega
 have v3:(s2:Int)+(xr:Int)=(s3:Int):=by omega
 have u6:IntKind.i64.wrap (s1:Int)=(s1:Int):=Ya1 (by omega);have u7:IntKind.i64.wrap (s2:Int)=(s2:Int):=Ya1 (by omega);have u8:IntKind.i64.wrap (s3:Int)=(s3:Int):=Ya1 (by omega);have i0:A<n:=by omega
 have i1:s1<n:=by omega
 have i2:s2<n:=by omega
 have i3:s3<n:=by omega
 have hr:=Lib.hid (fun x=>Yhm (f A+f (A+xr)+(f (A+mb)+f (A+mb+xr))) 2 x);rw[Ynf (by omega) (by omega),←hq.out] at hr;rw[hs1] at p1 q1 hr;rw[hs3] at p3 q3 hr;rw[hs2] at p2 q2 hr;generalize f A=z0 at *;generalize f s1=z1 at *;generalize f s2=z2 at *;generalize f s3=z3 at *;clear hA hf hq hs1 hs2 hs3 hin
 have L:=fun{ad:Addr} {v:Value} (h:w.cell? ad=some v) (hs:ad=⟨ad.block,ad.off,none⟩) (x:World) (hx:Below w.heap.size w x)=>(hx.cell (p:=ad) (World.block_lt_of_cell? w ad h)).trans h;have HW:=Lib.hid (L h1 rfl);have HS:=Lib.hid (L h2 rfl);have P0:=Lib.hid (L p0 rfl);have P1:=Lib.hid (L p1 rfl);have P2:=Lib.hid (L p2 rfl);have P3:=Lib.hid (L p3 rfl);clear L h1 h2 p0 p1 p2 p3
 go_enter Tryz.func73,Tryz.ntmps73
 go_wp2
 refine Yag (S:=fun x=>Below w.heap.size w x) 8 (by kernel_rfl) (by kernel_rfl) (Below.refl _ _).drew ?_;simp only[List.take_succ_cons,List.take_zero,List.drop_succ_cons,List.drop_zero];refine Yab (v:=?va0) (by kernel_rfl) ?m ?_;(case m=>(intro x _;go_simp;try with_reducible rfl));simp only[Yaa];refine Yab (v:=?va1) (by kernel_rfl) ?m ?_;(case m=>(intro x _;go_simp;try with_reducible rfl))
 simp only[Yaa];refine Yab (v:=?va2) (by kernel_rfl) ?m ?_;(case m=>(intro x _;go_simp;try with_reducible rfl));simp only[Yaa];refine Yab (v:=?va3) (by kernel_rfl) ?m ?_;(case m=>(intro x _;go_simp;try with_reducible rfl));simp only[Yaa];refine Yaf 3 _ ⟨r1,0,none⟩ (.int .i64 (W:Int)) (by kernel_rfl) rfl rfl (fun x hx=>by have c0:=HW.out x hx;go_simp) ?_;simp only[Yaa]
 refine Yab (v:=?va5) (by kernel_rfl) ?m ?_;(case m=>(intro x _;go_simp;try with_reducible rfl));simp only[Yaa];refine Yab (v:=?va6) (by kernel_rfl) ?m ?_;(case m=>(intro x _;go_simp;try with_reducible rfl));simp only[Yaa];refine Yab (v:=?va7) (by kernel_rfl) ?m ?_;(case m=>(intro x _;go_simp;try with_reducible rfl));simp only[Yaa];refine Yar fun x hx=>?_;have l1:=HW.out x hx;have l2:=HS.out x hx
 have l3:=P0.out x hx;have l4:=P1.out x hx;have l5:=P2.out x hx;have l6:=P3.out x hx
 go_wp2
 refine Yag (S:=fun x=>Below w.heap.size w x) 14 (by kernel_rfl) (by kernel_rfl) hx.drew ?_;simp only[List.take_succ_cons,List.take_zero,List.drop_succ_cons,List.drop_zero];clear l1 l2 l3 l4 l5 l6;refine Yaf 22 _ ⟨r2,0,none⟩ (.slice (some ⟨b,o,none⟩) n c) (by kernel_rfl) rfl rfl (fun x hx=>by have c0:=HS.out x hx;go_simp) ?_;simp only[Yaa]
 refine Yab (v:=?vb1) (by kernel_rfl) ?m ?_;(case m=>(intro x _;go_simp;try with_reducible rfl));simp only[Yaa];refine Yab (v:=?vb2) (by kernel_rfl) ?m ?_;(case m=>(intro x _;go_simp;try with_reducible rfl));simp only[Yaa];refine Yaf 5 _ ⟨b,o+A,none⟩ (.int .u8 z0) (by kernel_rfl) rfl rfl (fun x hx=>by have c0:=P0.out x hx;go_simp) ?_;simp only[Yaa]
 refine Yab (v:=?vb4) (by kernel_rfl) ?m ?_;(case m=>(intro x _;go_simp;try with_reducible rfl));simp only[Yaa];refine Yaf 22 _ ⟨r2,0,none⟩ (.slice (some ⟨b,o,none⟩) n c) (by kernel_rfl) rfl rfl (fun x hx=>by have c0:=HS.out x hx;go_simp) ?_;simp only[Yaa];refine Yab (v:=?vb6) (by kernel_rfl) ?m ?_;(case m=>(intro x _;go_simp;try with_reducible rfl));simp only[Yaa]
 refine Yab (v:=?vb7) (by kernel_rfl) ?m ?_;(case m=>(intro x _;go_simp;try with_reducible rfl));simp only[Yaa];refine Yab (v:=?vb8) (by kernel_rfl) ?m ?_;(case m=>(intro x _;go_simp;try with_reducible rfl));simp only[Yaa];refine Yab (v:=?vb9) (by kernel_rfl) ?m ?_;(case m=>(intro x _;go_simp;try with_reducible rfl));simp only[Yaa]
 refine Yaf 5 _ ⟨b,o+s1,none⟩ (.int .u8 z1) (by kernel_rfl) rfl rfl (fun x hx=>by have c0:=P1.out x hx;go_simp) ?_;simp only[Yaa];refine Yab (v:=?vb11) (by kernel_rfl) ?m ?_;(case m=>(intro x _;go_simp;try with_reducible rfl));simp only[Yaa];refine Yab (v:=?vb12) (by kernel_rfl) ?m ?_;(case m=>(intro x _;go_simp;try with_reducible rfl));simp only[Yaa]
 refine Yab (v:=?vb13) (by kernel_rfl) ?m ?_;(case m=>(intro x _;go_simp;try with_reducible rfl));simp only[Yaa];refine Yar fun x hx=>?_
 go_wp2
 refine Yag (S:=fun x=>Below w.heap.size w x) 18 (by kernel_rfl) (by kernel_rfl) hx.drew ?_;simp only[List.take_succ_cons,List.take_zero,List.drop_succ_cons,List.drop_zero];refine Yaf 22 _ ⟨r2,0,none⟩ (.slice (some ⟨b,o,none⟩) n c) (by kernel_rfl) rfl rfl (fun x hx=>by have c0:=HS.out x hx;go_simp) ?_;simp only[Yaa]
 refine Yab (v:=?vc1) (by kernel_rfl) ?m ?_;(case m=>(intro x _;go_simp;try with_reducible rfl));simp only[Yaa];refine Yab (v:=?vc2) (by kernel_rfl) ?m ?_;(case m=>(intro x _;go_simp;try with_reducible rfl));simp only[Yaa];refine Yab (v:=?vc3) (by kernel_rfl) ?m ?_;(case m=>(intro x _;go_simp;try with_reducible rfl));simp only[Yaa]
 refine Yab (v:=?vc4) (by kernel_rfl) ?m ?_;(case m=>(intro x _;go_simp;try with_reducible rfl));simp only[Yaa];refine Yaf 5 _ ⟨b,o+s2,none⟩ (.int .u8 z2) (by kernel_rfl) rfl rfl (fun x hx=>by have c0:=P2.out x hx;go_simp) ?_;simp only[Yaa];refine Yab (v:=?vc6) (by kernel_rfl) ?m ?_;(case m=>(intro x _;go_simp;try with_reducible rfl));simp only[Yaa]
 refine Yaf 22 _ ⟨r2,0,none⟩ (.slice (some ⟨b,o,none⟩) n c) (by kernel_rfl) rfl rfl (fun x hx=>by have c0:=HS.out x hx;go_simp) ?_;simp only[Yaa];refine Yab (v:=?vc8) (by kernel_rfl) ?m ?_;(case m=>(intro x _;go_simp;try with_reducible rfl));simp only[Yaa];refine Yab (v:=?vc9) (by kernel_rfl) ?m ?_;(case m=>(intro x _;go_simp;try with_reducible rfl));simp only[Yaa]
 refine Yab (v:=?vc10) (by kernel_rfl) ?m ?_;(case m=>(intro x _;go_simp;try with_reducible rfl));simp only[Yaa];refine Yab (v:=?vc11) (by kernel_rfl) ?m ?_;(case m=>(intro x _;go_simp;try with_reducible rfl));simp only[Yaa];refine Yab (v:=?vc12) (by kernel_rfl) ?m ?_;(case m=>(intro x _;go_simp;try with_reducible rfl));simp only[Yaa]
 refine Yab (v:=?vc13) (by kernel_rfl) ?m ?_;(case m=>(intro x _;go_simp;try with_reducible rfl));simp only[Yaa];refine Yaf 5 _ ⟨b,o+s3,none⟩ (.int .u8 z3) (by kernel_rfl) rfl rfl (fun x hx=>by have c0:=P3.out x hx;go_simp) ?_;simp only[Yaa];refine Yab (v:=?vc15) (by kernel_rfl) ?m ?_;(case m=>(intro x _;go_simp;try with_reducible rfl));simp only[Yaa]
 refine Yab (v:=?vc16) (by kernel_rfl) ?m ?_;(case m=>(intro x _;go_simp;try with_reducible rfl));simp only[Yaa];refine Yab (v:=?vc17) (by kernel_rfl) ?m ?_;(case m=>(intro x _;go_simp;try with_reducible rfl));simp only[Yaa];refine Yar fun x hx=>?_
 go_wp2_with (with_reducible refine(hr.out _).mono ?_;rintro e w1 ⟨rfl,rfl⟩)
 go_ret
 exact⟨rfl,hx⟩
theorem Yp5 {w:World}{lo:Nat}{s v:Value}{W n:Nat}{f:Nat→Int}(hs:Yde w lo s v W)(hv:Ykj w v n f)(hn:n≤1073741824)(x y:Nat)(hy:y≤10000)(hin:y / 2*W+x / 2+y%2*W+x%2<n):
  ∃r1 r2,s=.func (.func 73) #[] #[.pointer (some ⟨r1,0,none⟩),.pointer (some ⟨r2,0,none⟩)]∧Calls Tryz.prog 73 #[.int .i64 (x:Int),.int .i64 (y:Int),.pointer (some ⟨r1,0,none⟩),.pointer (some ⟨r2,0,none⟩)] w fun e w'=>e=.returned (.int .i64 (Yjj f W x y))∧Below w.heap.size w w':=by
 obtain⟨r1,r2,rfl,h1,h2,-⟩:=hs;obtain⟨p,c,rfl,-,h⟩:=hv;rcases h with h|⟨b,o,rfl,h⟩
 ·omega
 ·exact⟨r1,r2,rfl,You r1 r2 b o n c W x y f w h1 h2 hn hy h hin⟩
def Ylp (f:Nat→Int)(W L T:Nat):Nat→Int:=fun i=>Yjj f W (L+2*(i%8)) (T+2*(i / 8))
def InT (n W L T:Nat):Prop:=∀i,i<64→(T+2*(i / 8)) / 2*W+(L+2*(i%8)) / 2+(T+2*(i / 8))%2*W+(L+2*(i%8))%2<n
set_option maxRecDepth 100000 in
set_option maxHeartbeats 8000000 in
theorem Ynq (s v:Value)(W n cl ln L T:Nat)(f:Nat→Int)(a b:Int)(w:World)(lo:Nat)(hs:Yde w lo s v W)(hv:Ykj w v n f)(hn:n≤1073741824)(hcl:cl≤1000)(hln:ln≤1000)(hL:16*(cl:Int)+a=(L:Int))(hT:16*(ln:Int)+b=(T:Int))(hL2:L≤9000)(hT2:T≤9000)(hin:InT n W L T):
  Calls Tryz.prog 47 #[s,.int .i64 (cl:Int),.int .i64 (ln:Int),.agg (Yeq a b)] w fun e w'=>e=.returned (.agg (Yay (Ylp f W L T)))∧Below w.heap.size w w':=by
 obtain⟨B,wA,wB,wC,hB,hwA,hwB,hwC,hzA,hzB,hzC,hC0,hC1,hC2,hbC⟩:=Ykw w (.cells (Yeq a b) 26 (0,0)) (.cells (Yay fun _=>0) 36 (0,0)) (.cells (Yay fun _=>0) 36 (0,0))
 replace hC2:wC.heap[B+2]? =some (Yb8 (Ya9 (Ylp f W L T) 0)):=hC2
 have HT:=Lib.hid (fun(x:World) (hx:Below B w x) (i:Nat) (hi:i<64)=>Yp5 (hs.below (by rw[hB];exact hx)) (hv.below (by rw[hB];exact hx)) hn (L+2*(i%8)) (T+2*(i / 8)) (by omega) (hin i hi));obtain⟨r1,r2,rfl,-⟩:=hs;have HP:=Lib.hid (fun(x:World) (hx:Below B w x) (i:Nat) (hi:i<64)=>(by
  obtain⟨q1,q2,e,c⟩:=HT.out x hx i hi;simp at e;obtain⟨rfl,rfl⟩:=e;exact c:Calls Tryz.prog 73 #[.int .i64 ((L+2*(i%8):Nat):Int),.int .i64 ((T+2*(i / 8):Nat):Int),.pointer (some ⟨r1,0,none⟩),.pointer (some ⟨r2,0,none⟩)] x fun e w'=>e=.returned (.int .i64 (Ylp f W L T i))∧Below x.heap.size x w'))
 clear HT;obtain⟨l0,l1⟩:=Yhp hC0;have hC0':=hC0;have hz0:=Ybd;have HSY:(Yay fun _=>0).size=64:=Yak _;obtain⟨Y,hY⟩:∃Y,(Yay fun _=>0)=Y:=⟨_,rfl⟩;rw[hY] at hwB hwC hz0 HSY hC1;obtain⟨X,hX⟩:∃X,Yeq a b=X:=⟨_,rfl⟩;have HS2:=Ydu a b;rw[hX] at hwA HS2 hC0 ⊢;have u1:IntKind.i64.wrap (16*(cl:Int))=16*(cl:Int):=Ycv (by omega);have u2:IntKind.i64.wrap (16*(ln:Int))=16*(ln:Int):=Ycv (by omega)
 have u3:IntKind.i64.wrap (L:Int)=(L:Int):=Ya1 (by omega);have u4:IntKind.i64.wrap (T:Int)=(T:Int):=Ya1 (by omega);have HY:=Lib.hid hY;have HWA:=Lib.hid hwA;have HWB:=Lib.hid hwB;have HWC:=Lib.hid hwC;have HB:=Lib.hid hB;have HLL:=Lib.hid hL;have HTT:=Lib.hid hT;have HC:=Lib.hid (fun(x:World) (hx:Below (B+3) wC x)=>Yhp ((hx.block B (by omega)).trans hC0'))
 clear hX hY hwA hwB hwC hB hin hv hC0' l0 l1
 go_enter Tryz.func47,Tryz.ntmps47
 go_wp2
 rw[HWA.out,HB.out,HWB.out,HWC.out];refine Yag (S:=fun x=>Below (B+3) wC x) 12 (by kernel_rfl) (by kernel_rfl) (Below.refl _ _).drew ?_;simp only[List.take_succ_cons,List.take_zero,List.drop_succ_cons,List.drop_zero];refine Yab (v:=?v0) (by kernel_rfl) ?m ?_;(case m=>(intro x _;go_simp;try with_reducible rfl));simp only[Yaa]
 refine Yab (v:=?v1) (by kernel_rfl) ?m ?_;(case m=>(intro x _;go_simp;try with_reducible rfl));simp only[Yaa];refine Yab (v:=?v2) (by kernel_rfl) ?m ?_;(case m=>(intro x _;go_simp;try with_reducible rfl));simp only[Yaa];refine Yaf 3 _ ⟨B,0,none⟩ (.int .i64 a) (by kernel_rfl) rfl rfl (fun x hx=>by have c0:=(HC.out x hx).1;go_simp) ?_;simp only[Yaa]
 refine Yab (v:=?v4) (by kernel_rfl) ?m ?_;(case m=>(intro x _;go_simp;try with_reducible rfl));simp only[Yaa];refine Yab (v:=?v5) (by kernel_rfl) ?m ?_;(case m=>(intro x _;go_simp;try with_reducible rfl));simp only[Yaa];refine Yab (v:=?v6) (by kernel_rfl) ?m ?_;(case m=>(intro x _;go_simp;try with_reducible rfl));simp only[Yaa]
 refine Yab (v:=?v7) (by kernel_rfl) ?m ?_;(case m=>(intro x _;go_simp;try with_reducible rfl));simp only[Yaa];refine Yaf 3 _ ⟨B,1,none⟩ (.int .i64 b) (by kernel_rfl) rfl rfl (fun x hx=>by have c0:=(HC.out x hx).2;go_simp) ?_;simp only[Yaa];refine Yab (v:=?v9) (by kernel_rfl) ?m ?_;(case m=>(intro x _;go_simp;try with_reducible rfl));simp only[Yaa]
 refine Yab (v:=?v10) (by kernel_rfl) ?m ?_;(case m=>(intro x _;go_simp;try with_reducible rfl));simp only[Yaa];refine Yab (v:=?v11) (by kernel_rfl) ?m ?_;(case m=>(intro x _;go_simp;try with_reducible rfl));simp only[Yaa];refine Yar fun x hx=>?_;have h1:=(hx.block (B+1) (by omega)).trans hC1;have h2:=(hx.block (B+2) (by omega)).trans hC2;have hbx:=hbC.trans (hx.mono (by omega))
 have hzx:B+3≤x.heap.size:=by have:=hx.size;omega
 clear hC0 hC1 hC2 hbC hzA hzB hzC hL hT hx;have HQ:=Lib.hid (fun i=>show Ya9 (Ylp f W L T) (i+1)=Yb7 (Ya9 (Ylp f W L T) i) i (Ylp f W L T i) from rfl);have HV64:=Lib.hid (Yrw (Ylp f W L T));obtain⟨g,hg⟩:∃g,Ylp f W L T=g:=⟨_,rfl⟩;rw[hg] at HP HQ HV64;have HG:=Lib.hid hg;clear hg
 go_wp2
 go_loopw [23] (fun z wr=>∃i:Nat,i≤64∧z=.int .i64 i∧wr.heap[B+1]? =some (.cells Y 36 (0,0))∧wr.heap[B+2]? =some (Yb8 (Ya9 g i))∧Below B w wr∧B+3≤wr.heap.size) (fun z _=>64-(intOf z).toNat)
 case atStart=>exact⟨0,by omega,rfl,h1,h2,hbx,hzx⟩
 case round=>
  clear h1 h2 hbx hzx;obtain⟨i,hi64,rfl,h1,h2,hb,hz⟩:=hrel;by_cases hlt:i<64
  ·have t0:decide ((i:Int)<64)=true:=by simp;omega
   have cs:=HP.out wr hb i hlt;have e1:(i:Int).tmod 8=((i%8:Nat):Int):=by rw[Int.tmod_eq_emod_of_nonneg (by omega)];rfl
   have e2:(i:Int).tdiv 8=((i / 8:Nat):Int):=by rw[Int.tdiv_eq_ediv_of_nonneg (by omega)];rfl
   have e3:IntKind.i64.wrap ((i / 8:Nat):Int)=((i / 8:Nat):Int):=Ya1 (by omega);have b1:i%8<8:=by omega
   have b2:i / 8<8:=by omega
   have S1:(L:Int)+((i%8:Nat):Int)*2=((L+2*(i%8):Nat):Int):=by omega
   have S2:(T:Int)+((i / 8:Nat):Int)*2=((T+2*(i / 8):Nat):Int):=by omega
   have S3:IntKind.i64.wrap ((L+2*(i%8):Nat):Int)=((L+2*(i%8):Nat):Int):=Ya1 (by omega);have S4:IntKind.i64.wrap ((T+2*(i / 8):Nat):Int)=((T+2*(i / 8):Nat):Int):=Ya1 (by omega);generalize L+2*(i%8)=xx at *;generalize T+2*(i / 8)=yy at *;generalize i%8=u at *;generalize i / 8=q at *;have S:=HQ.out i;generalize hy:g i=y at cs S
   go_wp2_with fail
   refine cs.mono ?_;rintro e x1 ⟨rfl,hb1⟩;have k1:=(hb1.block (B+1) (by omega)).trans h1;have k2:=(hb1.block (B+2) (by omega)).trans h2;have kb:=hb.trans (hb1.mono (by omega));have kz:B+3≤x1.heap.size:=by have:=hb1.size;omega
   have c2:=Ya3 k2 hlt;have ff:=Yb3 (i:=i) k2;generalize Ya9 g i i=y2 at c2
   have PUT:=Lib.hid (⟨Yaq k1 (by simp),by rw[S];exact Yci y k2,kb.setCell (by simp;omega) _,by simp[World.setCell];omega⟩:(x1.setCell ⟨B+1+1,i,none⟩ (.int .i64 y)).heap[B+1]? =some (.cells Y 36 (0,0))∧(x1.setCell ⟨B+1+1,i,none⟩ (.int .i64 y)).heap[B+2]? =some (Yb8 (Ya9 g (i+1)))∧Below B w (x1.setCell ⟨B+1+1,i,none⟩ (.int .i64 y))∧B+3≤(x1.setCell ⟨B+1+1,i,none⟩ (.int .i64 y)).heap.size)
   clear h1 h2 hb hz k1 k2 kb kz S cs hb1 S1 S2 S3 S4
   go_wp2
   go_roundw
   case rel=>exact⟨i+1,by omega,by go_num,PUT.out⟩
   case measure=>simp[intOf] <;> omega
  ·obtain rfl:i=64:=by omega
   have t0:decide ((64:Int)<64)=false:=by simp
   obtain⟨V,hV⟩:∃V,Yay g=V:=⟨_,rfl⟩;have hV2:Yay (Ya9 g 64)=V:=by rw[←hV];exact Ye5 HV64.out
   have HV:=Lib.hid hV;have h2':wr.heap[B+2]? =some (.cells V 36 (0,0)):=by rw[←hV2];exact h2
   have HSV:(Tryz.prog.info? 36).map (·.size)=some V.size:=by rw[←hV];exact Yan _
   have HOV:V.all (·.oneCell')=true:=by rw[←hV];exact Ya0 _
   have HYV:Y.size=V.size:=by rw[←hV,HSY,Yak]
   clear hV hV2 h2
   go_wp2_with (first|(with_reducible refine wpList_load_row rfl 36 _ rfl (B+2) rfl 36 V (0,0) _ h2' Tryz.underlying36 rfl HSV ?_)|(with_reducible refine Yad rfl 36 _ _ rfl (B+1) V Y rfl rfl 36 h1 HSV HYV HOV ?_;intro w2 hh2 hg2))
   refine bodyPost_ret (results_cell_row rfl _ _ (B+1) 36 _ (0,0) _ rfl hh2 Tryz.underlying36 rfl HSV) rfl ?_;exact⟨by rw[HG.out,HV.out],by rw[HB.out];exact hb.grown hg2 (by omega) (fun k hk=>by injection hk with hk;omega)⟩
theorem Ypv {k:Int}{n:Nat→Nat}{p:Nat}(hp:p<3)(e:n p≠siz k p):Ybf k n=false:=by
 cases hq:Ybf k n with
 |false=>rfl
 |true=>exact absurd ((Ydr.1 hq).2 p hp) e
theorem Yne {k:Int}{n:Nat→Nat}{i:Nat}(h:∀p,p<i→n p=siz k p)(e:n i=siz k i):∀p,p<i+1→n p=siz k p:=by
 intro p hp;by_cases h1:p=i
 ·subst h1;exact e
 ·exact h p (by omega)
set_option maxRecDepth 100000 in
set_option maxHeartbeats 4000000 in
theorem Yjh (k:Int)(v:Nat→Value)(n:Nat→Nat)(w:World)(hv:∀p,p<3→∃a c,v p=.slice a (n p) c):
  Calls Tryz.prog 9 #[.agg (frA k v)] w fun e w'=>e=.returned (.bool (Ybf k n))∧Below w.heap.size w w':=by
 have c:=fun w=>Yc3 k w;have ix0:=fun w=>(Ybm (Yda k) (Ydd k) (Yjf k) (Yje k) w).1;obtain⟨-,-,h3,-⟩:=Ybu k;have hZ:(Yda k==0) = !(Yed k):=by
  cases hq:Yed k with
  |true=>have:=Yqi hq;simp;omega
  |false=>have:=Yqh hq;simp;omega
 unfold Yqe at c;obtain⟨B,hB⟩:∃B,w.heap.size=B:=⟨_,rfl⟩;obtain⟨wA,hwA⟩:∃wA,w.alloc (.cells (frA k v) 25 (0,0))=wA:=⟨_,rfl⟩;have hA0:wA.heap[B]? =some (frO 25 k v):=by rw[←hwA,←hB];exact heap_alloc_new w _
 have hbA:Below B w wA:=by rw[←hwA,←hB];exact(Below.refl _ w).alloc (Nat.le_refl _) _
 have hzA:wA.heap.size=B+1:=by rw[←hwA,←hB];simp
 have HF:=Lib.hid (fun(p:Nat) (hp:p<3) (x:World) (hx:Below (B+1) wA x)=>(⟨Ycm ((hx.block B (by omega)).trans hA0),Ykt ((hx.block B (by omega)).trans hA0) hp⟩:x.cell? ⟨B,0,none⟩=some (.int .i64 k)∧x.cell? ⟨B,1+p,none⟩=some (v p)))
 have HC:=Lib.hid (fun(p:Nat) (hp:p<3) (x:World) (hx:Below (B+1) wA x)=>((Ykc k p hp x).mono fun e y h=>⟨h.1,hx.trans (h.2.mono (by have:=hx.size;omega))⟩:Calls Tryz.prog 20 #[.int .i64 k,.int .i64 (p:Int)] x fun e y=>e=.returned (.int .i64 (wid k p:Int))∧Below (B+1) wA y))
 have HD:=Lib.hid (fun(p:Nat) (hp:p<3) (x:World) (hx:Below (B+1) wA x)=>((Yoy k p hp x).mono fun e y h=>⟨h.1,hx.trans (h.2.mono (by have:=hx.size;omega))⟩:Calls Tryz.prog 21 #[.int .i64 k,.int .i64 (p:Int)] x fun e y=>e=.returned (.int .i64 (hei k p:Int))∧Below (B+1) wA y));have HW:=Lib.hid (fun(x:World) (hx:Below (B+1) wA x)=>(by rw[hB];exact hbA.trans (hx.mono (by omega)):Below w.heap.size w x))
 have C0:=Lib.hid (fun(x:World) (hx:Below wA.heap.size wA x)=>(by rw[hzA] at hx;exact hx:Below (B+1) wA x));unfold frA frL at hwA ⊢;have HWA:=Lib.hid hwA;have HB:=Lib.hid hB;have HV:=Lib.hid hv;clear hwA hB hA0 hbA hzA h3 hv;generalize Yda k=W at *;generalize Ydd k=H at *;generalize Yjf k=R at *;generalize Yje k=L at *;cases hq:Yed k with
 |false=>
  rw[hq] at hZ;have hz:=Lib.hid (show Ybf k n=false by unfold Ybf;rw[hq];rfl);clear hq
  go_enter Tryz.func9,Tryz.ntmps9
  go_wp2_with fail
  rw[HWA.out];refine(c _).mono ?_;rintro e x ⟨rfl,hx⟩;have hx:=C0.out x hx
  go_wp2
  go_ret
  exact⟨Yac hz.out.symm,HW.out _ hx⟩
 |true=>
 rw[hq] at hZ;have HI:=Lib.hid hq;clear hq
 go_enter Tryz.func9,Tryz.ntmps9
 go_wp2_with fail
 rw[HWA.out,HB.out];refine(c _).mono ?_;rintro e x0 ⟨rfl,hx0⟩;have hx0:=C0.out x0 hx0
 go_wp2
 go_loopw [3] (fun z wr=>∃i:Nat,i≤3∧z=.int .i64 i∧Below (B+1) wA wr∧Hid (∀p,p<i→n p=siz k p)) (fun z _=>3-(intOf z).toNat)
 case atStart=>exact⟨0,by omega,rfl,hx0,fun p hp=>by omega⟩
 case round=>
  clear hx0;obtain⟨i,hi,rfl,hx,HH⟩:=hrel;by_cases hlt:i<3
  ·have t0:decide ((i:Int)<3)=true:=by simp;omega
   have H1:=Lib.hid (HF.out i hlt);have C1:=Lib.hid (HC.out i hlt);have C2:=Lib.hid (HD.out i hlt);obtain⟨a,cp,hv⟩:=HV.out i hlt;rw[hv] at H1;have hs:(wid k i:Int)*(hei k i:Int)=(siz k i:Int):=(Int.natCast_mul _ _).symm;have W1:IntKind.i64.wrap (siz k i:Int)=(siz k i:Int):=Ya1 (by have:=Yf1 k i;omega);by_cases e:n i=siz k i
   case pos=>
    have t1:=Yih e;have HH2:=Lib.hid (Yne HH.out e);clear e hv;generalize siz k i=S at *;generalize wid k i=X at *;generalize hei k i=Y at *;generalize hnn:n i=N at H1 t1;clear hnn
    go_wp2
    refine Yag (S:=fun x=>Below (B+1) wA x) 15 (by kernel_rfl) (by kernel_rfl) hx.drew ?_;simp only[List.take_succ_cons,List.take_zero,List.drop_succ_cons,List.drop_zero];refine Yab (v:=?v0) (by kernel_rfl) ?m ?_;(case m=>(intro x _;go_simp;try with_reducible rfl));simp only[Yaa];refine Yab (v:=?v1) (by kernel_rfl) ?m ?_;(case m=>(intro x _;go_simp;try with_reducible rfl));simp only[Yaa]
    refine Yab (v:=?v2) (by kernel_rfl) ?m ?_;(case m=>(intro x _;go_simp;rw[if_pos (by omega)]));simp only[Yaa];refine Yaf 22 _ ⟨B,1+i,none⟩ (.slice a N cp) (by kernel_rfl) rfl rfl (fun x hx=>by have c0:=(H1.out x hx).2;go_simp) ?_;simp only[Yaa];refine Yab (v:=?v4) (by kernel_rfl) ?m ?_;(case m=>(intro x _;go_simp;try with_reducible rfl));simp only[Yaa]
    refine Yab (v:=?v5) (by kernel_rfl) ?m ?_;(case m=>(intro x _;go_simp;try with_reducible rfl));simp only[Yaa];refine Yaf 3 _ ⟨B,0,none⟩ (.int .i64 k) (by kernel_rfl) rfl rfl (fun x hx=>by have c0:=(H1.out x hx).1;go_simp) ?_;simp only[Yaa];refine Yab (v:=?v7) (by kernel_rfl) ?m ?_;(case m=>(intro x _;go_simp;try with_reducible rfl));simp only[Yaa]
    refine Yai (by kernel_rfl) C1.out (fun _=>by kernel_rfl) ?_;simp only[Yaa];refine Yab (v:=?v9) (by kernel_rfl) ?m ?_;(case m=>(intro x _;go_simp;try with_reducible rfl));simp only[Yaa];refine Yaf 3 _ ⟨B,0,none⟩ (.int .i64 k) (by kernel_rfl) rfl rfl (fun x hx=>by have c0:=(H1.out x hx).1;go_simp) ?_;simp only[Yaa]
    refine Yab (v:=?v11) (by kernel_rfl) ?m ?_;(case m=>(intro x _;go_simp;try with_reducible rfl));simp only[Yaa];refine Yai (by kernel_rfl) C2.out (fun _=>by kernel_rfl) ?_;simp only[Yaa];refine Yab (v:=?v13) (by kernel_rfl) ?m ?_;(case m=>(intro x _;go_simp;try with_reducible rfl));simp only[Yaa];refine Yab (v:=?v14) (by kernel_rfl) ?m ?_;(case m=>(intro x _;go_simp;try with_reducible rfl))
    simp only[Yaa];refine Yar fun x hx=>?_
    go_wp2
    go_roundw
    case rel=>exact⟨i+1,by omega,by go_num,hx,HH2.out⟩
    case measure=>simp[intOf];omega
   case neg=>
    have t1:=Yii e;have HH3:=Lib.hid (Ypv hlt e);clear e hv;generalize siz k i=S at *;generalize wid k i=X at *;generalize hei k i=Y at *;generalize hnn:n i=N at H1 t1;clear hnn
    go_wp2
    refine Yag (S:=fun x=>Below (B+1) wA x) 15 (by kernel_rfl) (by kernel_rfl) hx.drew ?_;simp only[List.take_succ_cons,List.take_zero,List.drop_succ_cons,List.drop_zero];refine Yab (v:=?vb0) (by kernel_rfl) ?m ?_;(case m=>(intro x _;go_simp;try with_reducible rfl));simp only[Yaa];refine Yab (v:=?vb1) (by kernel_rfl) ?m ?_;(case m=>(intro x _;go_simp;try with_reducible rfl));simp only[Yaa]
    refine Yab (v:=?vb2) (by kernel_rfl) ?m ?_;(case m=>(intro x _;go_simp;rw[if_pos (by omega)]));simp only[Yaa];refine Yaf 22 _ ⟨B,1+i,none⟩ (.slice a N cp) (by kernel_rfl) rfl rfl (fun x hx=>by have c0:=(H1.out x hx).2;go_simp) ?_;simp only[Yaa];refine Yab (v:=?vb4) (by kernel_rfl) ?m ?_;(case m=>(intro x _;go_simp;try with_reducible rfl));simp only[Yaa]
    refine Yab (v:=?vb5) (by kernel_rfl) ?m ?_;(case m=>(intro x _;go_simp;try with_reducible rfl));simp only[Yaa];refine Yaf 3 _ ⟨B,0,none⟩ (.int .i64 k) (by kernel_rfl) rfl rfl (fun x hx=>by have c0:=(H1.out x hx).1;go_simp) ?_;simp only[Yaa];refine Yab (v:=?vb7) (by kernel_rfl) ?m ?_;(case m=>(intro x _;go_simp;try with_reducible rfl));simp only[Yaa]
    refine Yai (by kernel_rfl) C1.out (fun _=>by kernel_rfl) ?_;simp only[Yaa];refine Yab (v:=?vb9) (by kernel_rfl) ?m ?_;(case m=>(intro x _;go_simp;try with_reducible rfl));simp only[Yaa];refine Yaf 3 _ ⟨B,0,none⟩ (.int .i64 k) (by kernel_rfl) rfl rfl (fun x hx=>by have c0:=(H1.out x hx).1;go_simp) ?_;simp only[Yaa]
    refine Yab (v:=?vb11) (by kernel_rfl) ?m ?_;(case m=>(intro x _;go_simp;try with_reducible rfl));simp only[Yaa];refine Yai (by kernel_rfl) C2.out (fun _=>by kernel_rfl) ?_;simp only[Yaa];refine Yab (v:=?vb13) (by kernel_rfl) ?m ?_;(case m=>(intro x _;go_simp;try with_reducible rfl));simp only[Yaa];refine Yab (v:=?vb14) (by kernel_rfl) ?m ?_;(case m=>(intro x _;go_simp;try with_reducible rfl))
    simp only[Yaa];refine Yar fun x hx=>?_
    go_wp2
    go_ret
    exact⟨Yac HH3.out.symm,HW.out _ hx⟩
  ·obtain rfl:i=3:=by omega
   have t0:decide ((3:Int)<3)=false:=by simp
   have HE:=Lib.hid (Ydr.2 ⟨HI.out,HH.out⟩)
   go_wp2
   go_ret
   exact⟨Yac HE.out.symm,HW.out _ hx⟩
def Yoz (s h:Int):Bool:=decide (0≤s)&&decide ((s+30) / 2+(s+30)%2<h)
theorem Yju {c m:Nat}{v:Int}(h1:-32≤v)(h2:v≤31):Ybe c m v=Yoz (32*(c:Int)+v) (16*(m:Int)):=by
 unfold Ybe Yoz;rw[decide_eq_true (show -32≤v∧v≤31 from⟨h1,h2⟩),Bool.true_and,←Bool.decide_and];by_cases h:0≤32*(c:Int)+v∧32*(c:Int)+v+30≤32*(m:Int)-2
 ·rw[decide_eq_true h,decide_eq_true];omega
 ·rw[decide_eq_false h,decide_eq_false];omega
theorem Ylv (s h:Int)(w:World)(h1:-100≤s)(h2:s≤100000):Calls Tryz.prog 23 #[.int .i64 s,.int .i64 h] w fun e w'=>e=.returned (.bool (Yoz s h))∧w=w':=by
 have hq:=Lib.hid (show Yoz s h=(decide (0≤s)&&decide ((s+30) / 2+(s+30)%2<h)) from rfl);generalize Yoz s h=y at *;by_cases h0:0≤s
 ·have t0:decide (0≤s)=true:=decide_eq_true h0;rw[t0] at hq;have e1:(s+30).tdiv 2=(s+30) / 2:=Int.tdiv_eq_ediv_of_nonneg (by omega);have e2:(s+30).tmod 2=(s+30)%2:=Int.tmod_eq_emod_of_nonneg (by omega);have e3:IntKind.i64.wrap ((s+30) / 2)=(s+30) / 2:=Ycv (by omega);have m1:0≤(s+30) / 2∧(s+30) / 2≤100000:=by omega
  have m2:0≤(s+30)%2∧(s+30)%2≤1:=by omega
  generalize (s+30) / 2=u at *;generalize (s+30)%2=v at *;clear h0
  go_enter Tryz.func23,Tryz.ntmps23
  go_wp2
  go_ret
  exact⟨Yac (by rw[hq.out];rfl),rfl⟩
 ·have t0:decide (0≤s)=false:=decide_eq_false h0;rw[t0] at hq;clear h0
  go_enter Tryz.func23,Tryz.ntmps23
  go_wp2
  go_ret
  exact⟨Yac (by rw[hq.out];rfl),rfl⟩
set_option maxRecDepth 100000 in
set_option maxHeartbeats 4000000 in
theorem Yrj (k n a b:Int)(w:World):Calls Tryz.prog 11 #[.int .i64 k,.int .i64 n,.agg (Yeq a b)] w fun e w'=>e=.returned (.bool (Ygj k n a b))∧Below w.heap.size w w':=by
 have hq:=Lib.hid (show Ygj k n a b=(Yjk k n&&(Ybe (n.toNat%acr k) (acr k) a&&Ybe (n.toNat / acr k) (dow k) b)) from rfl);generalize Ygj k n a b=y at *;obtain⟨B,hB⟩:∃B,w.heap.size=B:=⟨_,rfl⟩;obtain⟨wA,hwA⟩:∃wA,w.alloc (.cells (Yeq a b) 26 (0,0))=wA:=⟨_,rfl⟩;have hA:wA.heap[B]? =some (.cells (Yeq a b) 26 (0,0)):=by rw[←hwA,←hB];exact heap_alloc_new w _
 have hz:wA.heap.size=B+1:=by rw[←hwA,←hB];simp
 have K:∀(x y:World),Below (B+1) wA x→Below x.heap.size x y→Below (B+1) wA y:=fun x y hx hy=>hx.trans (hy.mono (by have:=hx.size;omega));have HC:=Lib.hid (fun(x:World) (hx:Below (B+1) wA x)=>Yhp ((hx.block B (by omega)).trans hA));have hb:Below w.heap.size w wA:=by rw[←hwA];exact(Below.refl _ w).alloc (Nat.le_refl _) _
 have HE:=Lib.hid (fun(x:World) (hx:Below (B+1) wA x)=>(hb.trans (hx.mono (by omega)):Below w.heap.size w x));have C1:=Lib.hid (fun(x:World) (hx:Below (B+1) wA x)=>((Yjp k x).mono fun e y h=>⟨h.1,K x y hx h.2⟩:Calls Tryz.prog 10 #[.int .i64 k] x fun e y=>e=.returned (.int .i64 (Ybr k:Int))∧Below (B+1) wA y))
 have C2:=Lib.hid (fun(x:World) (hx:Below (B+1) wA x)=>((Yf5 k x).mono fun e y h=>⟨h.1,K x y hx h.2⟩:Calls Tryz.prog 22 #[.int .i64 k] x fun e y=>e=.returned (.int .i64 (acr k:Int))∧Below (B+1) wA y));have C3:=Lib.hid (fun(x:World) (hx:Below (B+1) wA x)=>((Yc3 k x).mono fun e y h=>⟨h.1,K x y hx h.2⟩:Calls Tryz.prog 19 #[.int .i64 k] x fun e y=>e=.returned (.agg (Yqe k))∧Below (B+1) wA y))
 unfold Yeq at *;have HWA:=Lib.hid hwA;have HB:=Lib.hid hB;have hS0:Below (B+1) wA wA:=Below.refl _ _;clear hA hz hb hwA hB K;cases hc:Yjk k n with
 |false=>
  rw[hc] at hq;by_cases h0:n<0
  ·have t0:decide (n<0)=true:=decide_eq_true h0;clear hc h0
   go_enter Tryz.func11,Tryz.ntmps11
   go_wp2
   rw[HWA.out]
   go_ret
   exact⟨Yac (by rw[hq.out];rfl),HE.out _ hS0⟩
  ·have t0:decide (n<0)=false:=decide_eq_false h0;have t1:decide ((Ybr k:Int)≤n)=true:=decide_eq_true (by
    have:¬ (0≤n∧n.toNat<Ybr k):=fun h=>by rw[Ydg.2 h] at hc;cases hc
    omega)
   generalize Ybr k=M at *;clear hc h0
   go_enter Tryz.func11,Tryz.ntmps11
   go_wp2_with fail
   rw[HWA.out];refine(C1.out _ hS0).mono ?_;rintro e x ⟨rfl,hx⟩
   go_wp2
   go_ret
   exact⟨Yac (by rw[hq.out];rfl),HE.out _ hx⟩
 |true=>
  rw[hc] at hq;obtain⟨q0,q1⟩:=Ydg.1 hc;obtain⟨q,rfl⟩:∃q:Nat,n=(q:Int):=⟨n.toNat,by omega⟩;rw[Int.toNat_natCast] at hq q1;obtain⟨r1,r2,r3,z0,m1,m2,m3,m4⟩:=Yh6 q1;have t0:decide ((q:Int)<0)=false:=decide_eq_false (by omega);have t1:decide (Ybr k≤q)=false:=decide_eq_false (by omega);clear hc q1 q0;generalize q%acr k=u at *;generalize q / acr k=v at *
  have C4:=Lib.hid (fun(x:World) (hx:Below (B+1) wA x) (h1:-32≤a) (h2:a≤31)=>(Ylv (32*(u:Int)+a) (Yda k) x (by omega) (by omega)).mono fun e y h=>(⟨h.1,h.2▸hx⟩:e=.returned (.bool (Yoz (32*(u:Int)+a) (Yda k)))∧Below (B+1) wA y))
  have C5:=Lib.hid (fun(x:World) (hx:Below (B+1) wA x) (h1:-32≤b) (h2:b≤31)=>(Ylv (32*(v:Int)+b) (Ydd k) x (by omega) (by omega)).mono fun e y h=>(⟨h.1,h.2▸hx⟩:e=.returned (.bool (Yoz (32*(v:Int)+b) (Ydd k)))∧Below (B+1) wA y));have I1:=Lib.hid (fun(h1:-32≤a) (h2:a≤31)=>(by rw[(Ybu k).2.2.1];exact Yju h1 h2:Ybe u (acr k) a=Yoz (32*(u:Int)+a) (Yda k)))
  have I2:=Lib.hid (fun(h1:-32≤b) (h2:b≤31)=>(by rw[(Ybu k).2.2.2.1];exact Yju h1 h2:Ybe v (dow k) b=Yoz (32*(v:Int)+b) (Ydd k)));have N1:=Lib.hid (fun(h:¬ (-32≤a∧a≤31))=>(by unfold Ybe;rw[decide_eq_false h];rfl:Ybe u (acr k) a=false));have N2:=Lib.hid (fun(h:¬ (-32≤b∧b≤31))=>(by unfold Ybe;rw[decide_eq_false h];rfl:Ybe v (dow k) b=false));have ix0:=fun w=>(Ybm (Yda k) (Ydd k) (Yjf k) (Yje k) w).1
  have ix1:=fun w=>(Ybm (Yda k) (Ydd k) (Yjf k) (Yje k) w).2;unfold Yqe at C3;generalize Ybe u (acr k) a=RA at *;generalize Ybe v (dow k) b=RB at *;generalize Ybr k=M at *;generalize acr k=A at *;generalize dow k=D at *;generalize Yda k=W at *;generalize Ydd k=H at *;generalize Yjf k=R at *;generalize Yje k=L at *
  go_enter Tryz.func11,Tryz.ntmps11
  go_wp2_with fail
  rw[HWA.out,HB.out];refine(C1.out _ hS0).mono ?_;rintro e x ⟨rfl,hx⟩
  go_wp2_with fail
  refine(C2.out _ hx).mono ?_;rintro e x2 ⟨rfl,hx2⟩
  go_wp2_with fail
  refine(C2.out _ hx2).mono ?_;rintro e x3 ⟨rfl,hx3⟩;clear hx hx2
  go_wp2
  go_loopw [9] (fun z wr=>∃i:Nat,i≤2∧z=.int .i64 i∧Below (B+1) wA wr∧(0<i→-32≤a∧a≤31)∧(1<i→-32≤b∧b≤31)) (fun z _=>2-(RowKit.intOf z).toNat)
  case atStart=>exact⟨0,by omega,rfl,hx3,by omega,by omega⟩
  case round=>
   clear hx3;obtain⟨i,hi2,rfl,hx,ha,hb⟩:=hrel;have hi3:i=0∨i=1∨i=2:=by omega
   obtain⟨l0,l1⟩:=HC.out _ hx;rcases hi3 with rfl|rfl|rfl
   case _=>
    by_cases h1:a < -32
    ·have t2:decide (a < -32)=true:=decide_eq_true h1;have e1:=N1.out (by omega);clear h1 ha hb
     go_wp2
     go_ret
     exact⟨Yac (by rw[hq.out,e1];rfl),HE.out _ hx⟩
    have t2:decide (a < -32)=false:=decide_eq_false h1;by_cases h2:31<a
    ·have t3:decide (31<a)=true:=decide_eq_true h2;have e1:=N1.out (by omega);clear h1 h2 ha hb
     go_wp2
     go_ret
     exact⟨Yac (by rw[hq.out,e1];rfl),HE.out _ hx⟩
    have t3:decide (31<a)=false:=decide_eq_false h2;have hr:-32≤a∧a≤31:=by omega
    clear h1 h2 ha hb
    go_wp2
    go_roundw
    case rel=>exact⟨1,by omega,by go_num,hx,fun _=>hr,by omega⟩
    case measure=>simp[RowKit.intOf]
   case _=>
    replace ha:=ha (by omega)
    by_cases h1:b < -32
    ·have t2:decide (b < -32)=true:=decide_eq_true h1;have e1:=N2.out (by omega);clear h1 hb
     go_wp2
     go_ret
     exact⟨Yac (by rw[hq.out,e1];cases RA <;> rfl),HE.out _ hx⟩
    have t2:decide (b < -32)=false:=decide_eq_false h1;by_cases h2:31<b
    ·have t3:decide (31<b)=true:=decide_eq_true h2;have e1:=N2.out (by omega);clear h1 h2 hb
     go_wp2
     go_ret
     exact⟨Yac (by rw[hq.out,e1];cases RA <;> rfl),HE.out _ hx⟩
    have t3:decide (31<b)=false:=decide_eq_false h2;have hr:-32≤b∧b≤31:=by omega
    clear h1 h2 hb
    go_wp2
    go_roundw
    case rel=>exact⟨2,by omega,by go_num,hx,fun _=>ha,fun _=>hr⟩
    case measure=>simp[RowKit.intOf]
   case _=>
    obtain⟨a1,a2⟩:=ha (by omega);obtain⟨b1,b2⟩:=hb (by omega);have e1:=I1.out a1 a2;have e2:=I2.out b1 b2;rw[e1,e2] at hq
    replace C4:=Lib.hid (fun(x:World) (hx:Below (B+1) wA x)=>C4.out x hx a1 a2)
    replace C5:=Lib.hid (fun(x:World) (hx:Below (B+1) wA x)=>C5.out x hx b1 b2)
    clear ha hb e1 e2 I1 I2 N1 N2 l0 l1;have w1:IntKind.i64.wrap (32*(u:Int))=32*(u:Int):=Ycv (by omega);have w2:IntKind.i64.wrap (32*(u:Int)+a)=32*(u:Int)+a:=Ycv (by omega);have w3:IntKind.i64.wrap (32*(v:Int))=32*(v:Int):=Ycv (by omega);have w4:IntKind.i64.wrap (32*(v:Int)+b)=32*(v:Int)+b:=Ycv (by omega);cases hi:Yoz (32*(u:Int)+a) W with
    |false=>
     rw[hi] at C4 hq
     go_wp2
     refine Yag (S:=fun x=>Below (B+1) wA x) 21 (by kernel_rfl) (by kernel_rfl) hx.drew ?_;simp only[List.take_succ_cons,List.take_zero,List.drop_succ_cons,List.drop_zero];refine Yab (v:=?vp0) (by kernel_rfl) ?m ?_;(case m=>(intro x _;go_simp;try with_reducible rfl));simp only[Yaa];refine Yab (v:=?vp1) (by kernel_rfl) ?m ?_;(case m=>(intro x _;go_simp;try with_reducible rfl));simp only[Yaa]
     refine Yab (v:=?vp2) (by kernel_rfl) ?m ?_;(case m=>(intro x _;go_simp;try with_reducible rfl));simp only[Yaa];refine Yaf 3 _ ⟨B,0,none⟩ (.int .i64 a) (by kernel_rfl) rfl rfl (fun x hx=>by have c0:=(HC.out x hx).1;go_simp) ?_;simp only[Yaa];refine Yab (v:=?vp4) (by kernel_rfl) ?m ?_;(case m=>(intro x _;go_simp;try with_reducible rfl));simp only[Yaa]
     refine Yab (v:=?vp5) (by kernel_rfl) ?m ?_;(case m=>(intro x _;go_simp;try with_reducible rfl));simp only[Yaa];refine Yai (by kernel_rfl) C3.out (fun _=>by kernel_rfl) ?_;simp only[Yaa];refine Yab (v:=?vp7) (by kernel_rfl) ?m ?_;(case m=>(intro x _;go_simp;try with_reducible rfl));simp only[Yaa];refine Yai (by kernel_rfl) C4.out (fun _=>by kernel_rfl) ?_;simp only[Yaa]
     refine Yab (v:=?vp9) (by kernel_rfl) ?m ?_;(case m=>(intro x _;go_simp;try with_reducible rfl));simp only[Yaa];refine Ybk (by kernel_rfl) ?_;simp only[Yaa];refine Ybk (by kernel_rfl) ?_;simp only[Yaa];refine Ybk (by kernel_rfl) ?_;simp only[Yaa];refine Ybk (by kernel_rfl) ?_;simp only[Yaa];refine Ybk (by kernel_rfl) ?_;simp only[Yaa];refine Ybk (by kernel_rfl) ?_;simp only[Yaa]
     refine Ybk (by kernel_rfl) ?_;simp only[Yaa];refine Ybk (by kernel_rfl) ?_;simp only[Yaa];refine Ybk (by kernel_rfl) ?_;simp only[Yaa];refine Yab (v:=?vp19) (by kernel_rfl) ?m ?_;(case m=>(intro x _;go_simp;try with_reducible rfl));simp only[Yaa];refine Yab (v:=?vp20) (by kernel_rfl) ?m ?_;(case m=>(intro x _;go_simp;try with_reducible rfl));simp only[Yaa];refine Yar fun x hx=>?_
     go_wp2
     go_ret
     exact⟨Yac (by rw[hq.out];rfl),HE.out _ hx⟩
    |true=>
     rw[hi] at C4 hq;generalize Yoz (32*(v:Int)+b) H=J at *
     go_wp2
     refine Yag (S:=fun x=>Below (B+1) wA x) 21 (by kernel_rfl) (by kernel_rfl) hx.drew ?_;simp only[List.take_succ_cons,List.take_zero,List.drop_succ_cons,List.drop_zero];refine Yab (v:=?vq0) (by kernel_rfl) ?m ?_;(case m=>(intro x _;go_simp;try with_reducible rfl));simp only[Yaa];refine Yab (v:=?vq1) (by kernel_rfl) ?m ?_;(case m=>(intro x _;go_simp;try with_reducible rfl));simp only[Yaa]
     refine Yab (v:=?vq2) (by kernel_rfl) ?m ?_;(case m=>(intro x _;go_simp;try with_reducible rfl));simp only[Yaa];refine Yaf 3 _ ⟨B,0,none⟩ (.int .i64 a) (by kernel_rfl) rfl rfl (fun x hx=>by have c0:=(HC.out x hx).1;go_simp) ?_;simp only[Yaa];refine Yab (v:=?vq4) (by kernel_rfl) ?m ?_;(case m=>(intro x _;go_simp;try with_reducible rfl));simp only[Yaa]
     refine Yab (v:=?vq5) (by kernel_rfl) ?m ?_;(case m=>(intro x _;go_simp;try with_reducible rfl));simp only[Yaa];refine Yai (by kernel_rfl) C3.out (fun _=>by kernel_rfl) ?_;simp only[Yaa];refine Yab (v:=?vq7) (by kernel_rfl) ?m ?_;(case m=>(intro x _;go_simp;try with_reducible rfl));simp only[Yaa];refine Yai (by kernel_rfl) C4.out (fun _=>by kernel_rfl) ?_;simp only[Yaa]
     refine Yab (v:=?vq9) (by kernel_rfl) ?m ?_;(case m=>(intro x _;go_simp;try with_reducible rfl));simp only[Yaa];refine Yab (v:=?vq10) (by kernel_rfl) ?m ?_;(case m=>(intro x _;go_simp;try with_reducible rfl));simp only[Yaa];refine Yab (v:=?vq11) (by kernel_rfl) ?m ?_;(case m=>(intro x _;go_simp;try with_reducible rfl));simp only[Yaa]
     refine Yab (v:=?vq12) (by kernel_rfl) ?m ?_;(case m=>(intro x _;go_simp;try with_reducible rfl));simp only[Yaa];refine Yaf 3 _ ⟨B,1,none⟩ (.int .i64 b) (by kernel_rfl) rfl rfl (fun x hx=>by have c0:=(HC.out x hx).2;go_simp) ?_;simp only[Yaa];refine Yab (v:=?vq14) (by kernel_rfl) ?m ?_;(case m=>(intro x _;go_simp;try with_reducible rfl));simp only[Yaa]
     refine Yab (v:=?vq15) (by kernel_rfl) ?m ?_;(case m=>(intro x _;go_simp;try with_reducible rfl));simp only[Yaa];refine Yai (by kernel_rfl) C3.out (fun _=>by kernel_rfl) ?_;simp only[Yaa];refine Yab (v:=?vq17) (by kernel_rfl) ?m ?_;(case m=>(intro x _;go_simp;try with_reducible rfl));simp only[Yaa];refine Yai (by kernel_rfl) C5.out (fun _=>by kernel_rfl) ?_;simp only[Yaa]
     refine Yab (v:=?vq19) (by kernel_rfl) ?m ?_;(case m=>(intro x _;go_simp;try with_reducible rfl));simp only[Yaa];refine Yab (v:=?vq20) (by kernel_rfl) ?m ?_;(case m=>(intro x _;go_simp;try with_reducible rfl));simp only[Yaa];refine Yar fun x hx=>?_
     go_wp2
     go_ret
     exact⟨Yac (by rw[hq.out];rfl),HE.out _ hx⟩
end Go.Proofs.YtdnjefldijjgdaaGreatDoor