/- No condition. -/
import Derived.Test.YtdnjefldijjgdaaDoorRebuildSumsMa
import Derived.Test.YtdnjefldijjgdaaDoorRebuildSumsMf
import Derived.Test.YtdnjefldijjgdaaDoorRebuildSumsMg
import Derived.Test.YtdnjefldijjgdaaDoorRebuildSumsMh
import Derived.Test.YtdnjefldijjgdaaDoorRebuildSumsMm
import Derived.Test.YtdnjefldijjgdaaDoorRebuildSumsMt
import Derived.Laws.IdiomCopy
import Derived.Laws.BytesArg
import Derived.Laws.World
import Derived.WalkMore
import Derived.Laws.Slices
namespace Go.Proofs.YtdnjefldijjgdaaDoor
open Go.RowKit Go.Lib Go.ChangeShapes Go.WideShapes Go.ChangeAt
def frL (k:Int)(v:Nat→Value):List Value:=[.int .i64 k,v 0,v 1,v 2]
def frA (k:Int)(v:Nat→Value):Array Value:=(frL k v).toArray
def frO (T:TypeId)(k:Int)(v:Nat→Value):Obj:=.cells (frA k v) T (0,0)
def nilV:Nat→Value:=fun _=>.slice none 0 0
section
variable {w:World}{B:Nat}{T:TypeId}{k:Int}{v:Nat→Value}
theorem Yc1 (h:w.heap[B]? =some (frO T k v)):w.cell? ⟨B,0,none⟩=some (.int .i64 k):=Yad (cs:=frL k v) h rfl
theorem Ypj (h:w.heap[B]? =some (frO T k v)){p:Nat}(hp:p<3):w.cell? ⟨B,1+p,none⟩=some (v p):=by
 refine Yad (cs:=frL k v) h ?_
 match p,hp with
 |0,_=>rfl
 |1,_=>rfl
 |2,_=>rfl
end
theorem Yed {T:TypeId}(h:(Tryd.prog.info? T).map (·.size)=some 4)(k:Int)(v:Nat→Value):(Tryd.prog.info? T).map (·.size)=some (frA k v).size:=h
theorem Yk3:∃i,Tryd.prog.info? 28=some i:=by
 cases h:Tryd.prog.info? 28 with
 |some i=>exact⟨i,rfl⟩
 |none=>
  have h2:(Tryd.prog.info? 28).isSome=true:=by kernel_rfl
  rw[h] at h2;cases h2
theorem Yjn:Tryd.prog.cellsOf 28=1:=by kernel_rfl
theorem Ygc (v:Nat→Value){p:Nat}(hp:p<3)(w:World):(Instr.index 29 (.agg #[v 0,v 1,v 2]) (.int .i64 (p:Int))).run Tryd.prog w=.ok (v p) w:=by
 obtain⟨j,hj⟩:=Yk3;have h1:(0:Int)≤(p:Int)∧(p:Int)<((3:Nat):Int):=by omega
 have hx:#[v 0,v 1,v 2][p]? =some (v p):=by
  match p,hp with
  |0,_=>rfl
  |1,_=>rfl
  |2,_=>rfl
 simp only[Instr.index,asIntOf,Sem.run_bind,Sem.run_pure,Result.andThen_ok,run_underlying Tryd.underlying29,if_pos h1,run_sizeOf w hj,Yjn,Nat.mul_one,Int.toNat_natCast];simp[part,isAgg,run_underlying Tryd.underlying28,hx]
def Ym2 (w:World)(v:Value)(n:Nat)(f:Nat→Int):Prop:=∃p c,v=.slice p n c∧n≤c∧(n=0∨∃b o,p=some ⟨b,o,none⟩∧∀i,i<n→w.cell? ⟨b,o+i,none⟩=some (.int .u8 (f i))∧0≤f i∧f i≤255)
theorem Ym2.below {w w':World}{v:Value}{n:Nat}{f:Nat→Int}(h:Ym2 w v n f)(hb:Below w.heap.size w w'):Ym2 w' v n f:=by
 obtain⟨p,c,rfl,hc,h⟩:=h;refine⟨p,c,rfl,hc,?_⟩;rcases h with h|⟨b,o,rfl,h⟩
 ·exact .inl h
 ·refine .inr ⟨b,o,rfl,fun i hi=>?_⟩;obtain⟨h1,h2⟩:=h i hi;exact⟨(hb.cell (p:=⟨b,o+i,none⟩) (World.block_lt_of_cell? w ⟨b,o+i,none⟩ h1)).trans h1,h2⟩
theorem Ym2.nil (w:World)(f:Nat→Int):Ym2 w (.slice none 0 0) 0 f:=⟨none,0,rfl,Nat.le_refl _,.inl rfl⟩
def Ykn (w:World)(v:Nat→Value)(n:Nat→Nat)(f:Nat→Nat→Int):Prop:=∀p,p<3→Ym2 w (v p) (n p) (f p)
theorem Ykn.below {w w':World}{v:Nat→Value}{n:Nat→Nat}{f:Nat→Nat→Int}(h:Ykn w v n f)(hb:Below w.heap.size w w'):Ykn w' v n f:=fun p hp=>(h p hp).below hb
theorem Ykn.nil (w:World):Ykn w nilV (fun _=>0) (fun _ _=>0):=fun _ _=>Ym2.nil w _
section
variable {w w':World}{v:Value}{g n:Nat}{f:Nat→Int}
end
section
variable {w w':World}{lo:Nat}{v:Nat→Value}{g n:Nat→Nat}{f f':Nat→Nat→Int}
end
end Go.Proofs.YtdnjefldijjgdaaDoor
namespace Go.Proofs.YtdnjefldijjgdaaDoor
open Go.RowKit Go.Lib
theorem Ycw (k:Int)(p:Nat)(hp:p<3)(w:World):Calls Tryd.prog 23 #[.int .i64 k,.int .i64 (p:Int)] w fun e w'=>e=.returned (.int .i64 (siz k p:Int))∧w=w':=by
 have c:=fun w=>Yet k p w;rw[Ylh k p hp] at c;have hs:(wid k p:Int)*(hei k p:Int)=(siz k p:Int):=(Int.natCast_mul _ _).symm;have hw:IntKind.i64.wrap (siz k p:Int)=(siz k p:Int):=Yhy (by have:=Yja k p;omega);generalize wid k p=a at *;generalize hei k p=b at *;generalize siz k p=m at *
 go_enter Tryd.func23,Tryd.ntmps23
 go_wp2_with (with_reducible refine(c _).mono ?_;rintro e w1 ⟨rfl,rfl⟩)
 go_ret
 exact⟨rfl,rfl⟩
theorem Ygf (k:Int)(w:World):Calls Tryd.prog 24 #[.int .i64 k] w fun e w'=>e=.returned (.bool (Yev k))∧w=w':=by
 have c:=fun w=>Ydw k w;generalize Yev k=y at *;generalize Yfn k=a at *;generalize Yfm k=b at *
 go_enter Tryd.func24,Tryd.ntmps24
 go_wp2_with (with_reducible refine(c _).mono ?_;rintro e w1 ⟨rfl,rfl⟩)
 go_ret
 exact⟨rfl,rfl⟩
def Ycf (k:Int)(n:Nat→Nat):Bool:=Yev k&&(decide (n 0=siz k 0)&&(decide (n 1=siz k 1)&&decide (n 2=siz k 2)))
theorem Yfu {k:Int}{n:Nat→Nat}:Ycf k n=true↔Yev k=true∧∀p,p<3→n p=siz k p:=by
 unfold Ycf;simp only[Bool.and_eq_true,decide_eq_true_iff];constructor
 ·rintro⟨h,h0,h1,h2⟩;refine⟨h,fun p hp=>?_⟩
  match p,hp with
  |0,_=>exact h0
  |1,_=>exact h1
  |2,_=>exact h2
 ·rintro⟨h,hp⟩;exact⟨h,hp 0 (by omega),hp 1 (by omega),hp 2 (by omega)⟩
theorem Yih {a b:Nat}(h:a=b):((a:Int) != (b:Int))=false:=by simp[h]
theorem Yii {a b:Nat}(h:a≠b):((a:Int) != (b:Int))=true:=by simp[bne];omega
set_option maxRecDepth 100000 in
set_option maxHeartbeats 2000000 in
theorem Yd3 (k:Int)(v:Nat→Value)(n:Nat→Nat)(w:World)(hv:∀p,p<3→∃a c,v p=.slice a (n p) c):
  Calls Tryd.prog 15 #[.agg (frA k v)] w fun e w'=>e=.returned (.bool (Ycf k n))∧Below w.heap.size w w':=by
 have hb1:∀o,Below w.heap.size w (w.alloc o):=fun o=>(Below.refl _ w).alloc (Nat.le_refl _) _;have c0:∀w,Calls Tryd.prog 23 #[.int .i64 k,.int .i64 0] w fun e w'=>e=.returned (.int .i64 (siz k 0:Int))∧w=w':=fun w=>Ycw k 0 (by omega) w;have c1:∀w,Calls Tryd.prog 23 #[.int .i64 k,.int .i64 1] w fun e w'=>e=.returned (.int .i64 (siz k 1:Int))∧w=w':=fun w=>Ycw k 1 (by omega) w
 have c2:∀w,Calls Tryd.prog 23 #[.int .i64 k,.int .i64 2] w fun e w'=>e=.returned (.int .i64 (siz k 2:Int))∧w=w':=fun w=>Ycw k 2 (by omega) w;have c3:=fun w=>Ygf k w;have hR:=Lib.hid (show Ycf k n=(Yev k&&(decide (n 0=siz k 0)&&(decide (n 1=siz k 1)&&decide (n 2=siz k 2)))) from rfl);obtain⟨a0,b0,hv0⟩:=hv 0 (by omega);obtain⟨a1,b1,hv1⟩:=hv 1 (by omega);obtain⟨a2,b2,hv2⟩:=hv 2 (by omega)
 have x0:∀w,(Instr.index 29 (.agg #[v 0,v 1,v 2]) (.int .i64 0)).run Tryd.prog w=.ok (v 0) w:=fun w=>Ygc v (p:=0) (by omega) w;have x1:∀w,(Instr.index 29 (.agg #[v 0,v 1,v 2]) (.int .i64 1)).run Tryd.prog w=.ok (v 1) w:=fun w=>Ygc v (p:=1) (by omega) w;have x2:∀w,(Instr.index 29 (.agg #[v 0,v 1,v 2]) (.int .i64 2)).run Tryd.prog w=.ok (v 2) w:=fun w=>Ygc v (p:=2) (by omega) w;unfold frA frL
 rw[hv0,hv1,hv2] at x0 x1 x2 ⊢;clear hv hv0 hv1 hv2;generalize Yev k=y at *;generalize Ycf k n=z at *;generalize siz k 0=s0 at *;generalize siz k 1=s1 at *;generalize siz k 2=s2 at *;generalize n 0=n0 at *;generalize n 1=n1 at *;generalize n 2=n2 at *
 go_enter Tryd.func15,Tryd.ntmps15
 go_wp2
 go_loopw [7] (fun z wr=>∃i:Nat,i≤3∧z=.int .i64 i∧wr=w.alloc (.cells #[.int .i64 k,.slice a0 n0 b0,.slice a1 n1 b1,.slice a2 n2 b2] 31 (0,0))∧Hid ((1≤i→n0=s0)∧(2≤i→n1=s1)∧(3≤i→n2=s2))) (fun z _=>3-(intOf z).toNat)
 case atStart=>exact⟨0,by omega,rfl,rfl,by show _∧_;omega⟩
 case round=>
  obtain⟨i,hi,rfl,rfl,HH⟩:=hrel;obtain⟨k0,k1,k2⟩:=HH.out;clear HH;have hi4:i=0∨i=1∨i=2∨i=3:=by omega
  rcases hi4 with rfl|rfl|rfl|rfl
  case _=>
   by_cases e:n0=s0
   ·have t:=Yih e;have HE:=Lib.hid e;clear e k0 k1 k2
    go_wp2_with (with_reducible refine(c0 _).mono ?_;rintro e w1 ⟨rfl,rfl⟩)
    go_roundw
    case rel=>exact⟨1,by omega,rfl,(by trivial),⟨fun _=>HE.out,by omega,by omega⟩⟩
    case measure=>simp[intOf]
   ·have t:=Yii e
    go_wp2_with (with_reducible refine(c0 _).mono ?_;rintro e w1 ⟨rfl,rfl⟩)
    go_ret
    exact⟨Yaf (by rw[hR.out,decide_eq_false e];simp),hb1 _⟩
  case _=>
   have e0:=k0 (by omega);by_cases e:n1=s1
   ·have t:=Yih e;have HE:=Lib.hid e;have HE0:=Lib.hid e0;clear e e0 k0 k1 k2
    go_wp2_with (with_reducible refine(c1 _).mono ?_;rintro e w1 ⟨rfl,rfl⟩)
    go_roundw
    case rel=>exact⟨2,by omega,rfl,(by trivial),⟨fun _=>HE0.out,fun _=>HE.out,by omega⟩⟩
    case measure=>simp[intOf]
   ·have t:=Yii e;clear e0 k0 k1 k2
    go_wp2_with (with_reducible refine(c1 _).mono ?_;rintro e w1 ⟨rfl,rfl⟩)
    go_ret
    exact⟨Yaf (by rw[hR.out,decide_eq_false e];simp),hb1 _⟩
  case _=>
   have e0:=k0 (by omega);have e1:=k1 (by omega);by_cases e:n2=s2
   ·have t:=Yih e;have HE:=Lib.hid e;have HE0:=Lib.hid e0;have HE1:=Lib.hid e1;clear e e0 e1 k0 k1 k2
    go_wp2_with (with_reducible refine(c2 _).mono ?_;rintro e w1 ⟨rfl,rfl⟩)
    go_roundw
    case rel=>exact⟨3,by omega,rfl,(by trivial),⟨fun _=>HE0.out,fun _=>HE1.out,fun _=>HE.out⟩⟩
    case measure=>simp[intOf]
   ·have t:=Yii e;clear e0 e1 k0 k1 k2
    go_wp2_with (with_reducible refine(c2 _).mono ?_;rintro e w1 ⟨rfl,rfl⟩)
    go_ret
    exact⟨Yaf (by rw[hR.out,decide_eq_false e];simp),hb1 _⟩
  case _=>
   have e0:=k0 (by omega);have e1:=k1 (by omega);have e2:=k2 (by omega);subst e0 e1 e2;clear k0 k1 k2
   go_wp2_with (with_reducible refine(c3 _).mono ?_;rintro e w1 ⟨rfl,rfl⟩)
   go_ret
   exact⟨Yaf (by rw[hR.out];simp),hb1 _⟩
def Yh7 (a:Int):Int:=2*(a / 4)+if a%4=0 then 0 else 1
def Ygx (v:Int):Int:=if Ya1 v (-64) 64<0 then -Yh7 (-Ya1 v (-64) 64) else Yh7 (Ya1 v (-64) 64)
theorem Yh8 {a:Int}(h0:0≤a)(h1:a≤64):0≤Yh7 a∧Yh7 a≤32:=by unfold Yh7;split <;> omega
theorem Yk4 (v:Int):-32≤Ygx v∧Ygx v≤32:=by
 have h1:=Ybt v (-64) 64;have h2:=Ybs v (-64) 64 (by omega);unfold Ygx
 split
 ·have:=Yh8 (a:=-Ya1 v (-64) 64) (by omega) (by omega);omega
 ·have:=Yh8 (a:=Ya1 v (-64) 64) (by omega) (by omega);omega
theorem Ypa {v:Int}(h1:-64≤v)(h2:v≤64):Ygx v=if v<0 then -Yh7 (-v) else Yh7 v:=by unfold Ygx;rw[Yga v _ _ h1 h2]
set_option maxHeartbeats 1000000 in
theorem Ygy (a:Int)(w:World)(h0:0≤a)(h1:a≤64):Calls Tryd.prog 34 #[.int .i64 a] w fun e w'=>e=.returned (.int .i64 (Yh7 a))∧w=w':=by
 have c:=fun w=>Yaw a (-64) 64 w;rw[Yga a (-64) 64 (by omega) h1] at c;have t0:decide (a<0)=false:=by simp;omega
 have q1:a.tdiv 4=a / 4:=Int.tdiv_eq_ediv_of_nonneg h0;have q2:a.tmod 4=a%4:=Int.tmod_eq_emod_of_nonneg h0;have u1:0≤a / 4:=by omega
 have u2:a / 4≤16:=by omega
 have wu:IntKind.i64.wrap (a / 4)=a / 4:=Yhy (by omega);have hz:=Lib.hid (show Yh7 a=2*(a / 4)+if a%4=0 then 0 else 1 from rfl);generalize Yh7 a=z at *;generalize a / 4=u at *;by_cases hr:a%4=0
 ·rw[if_pos hr] at hz;rw[hr] at q2;clear hr
  go_enter Tryd.func34,Tryd.ntmps34
  go_wp2_with (with_reducible refine(c _).mono ?_;rintro e w1 ⟨rfl,rfl⟩)
  go_ret
  exact⟨Ya8 (by have:=hz.out;omega),rfl⟩
 ·rw[if_neg hr] at hz;have t1:(a%4 != 0)=true:=by simpa [bne] using hr
  generalize a%4=r at *;clear hr
  go_enter Tryd.func34,Tryd.ntmps34
  go_wp2_with (with_reducible refine(c _).mono ?_;rintro e w1 ⟨rfl,rfl⟩)
  go_ret
  exact⟨Ya8 (by have:=hz.out;omega),rfl⟩
theorem Yep (v:Int)(w:World):Calls Tryd.prog 34 #[.int .i64 v] w fun e w'=>e=.returned (.int .i64 (Ygx v))∧w=w':=by
 have c:=fun w=>Yaw v (-64) 64 w;have h1:=Ybt v (-64) 64;have h2:=Ybs v (-64) 64 (by omega);have hz:=Lib.hid (show Ygx v=if Ya1 v (-64) 64<0 then -Yh7 (-Ya1 v (-64) 64) else Yh7 (Ya1 v (-64) 64) from rfl);generalize Ygx v=z at *;generalize Ya1 v (-64) 64=a at *;by_cases h0:a<0
 ·rw[if_pos h0] at hz;have c2:=fun w=>Ygy (-a) w (by omega) (by omega);have t0:decide (a<0)=true:=by simpa using h0
  have q:=Yh8 (a:=-a) (by omega) (by omega);generalize Yh7 (-a)=y at *;clear h0
  go_enter Tryd.func34,Tryd.ntmps34
  go_wp2_with (first|(with_reducible refine(c _).mono ?_;rintro e w1 ⟨rfl,rfl⟩)|(with_reducible refine(c2 _).mono ?_;rintro e w1 ⟨rfl,rfl⟩))
  go_ret
  exact⟨Ya8 hz.out.symm,rfl⟩
 ·rw[if_neg h0] at hz;have t0:decide (a<0)=false:=by simpa using h0
  have q1:a.tdiv 4=a / 4:=Int.tdiv_eq_ediv_of_nonneg (by omega);have q2:a.tmod 4=a%4:=Int.tmod_eq_emod_of_nonneg (by omega);have u1:0≤a / 4:=by omega
  have u2:a / 4≤16:=by omega
  have wu:IntKind.i64.wrap (a / 4)=a / 4:=Yhy (by omega);have hy:=Lib.hid (show Yh7 a=2*(a / 4)+if a%4=0 then 0 else 1 from rfl);rw[hy.out] at hz;clear hy;generalize a / 4=u at *;by_cases hr:a%4=0
  ·rw[if_pos hr] at hz;rw[hr] at q2;clear hr h0
   go_enter Tryd.func34,Tryd.ntmps34
   go_wp2_with (with_reducible refine(c _).mono ?_;rintro e w1 ⟨rfl,rfl⟩)
   go_ret
   exact⟨Ya8 (by have:=hz.out;omega),rfl⟩
  ·rw[if_neg hr] at hz;have t1:(a%4 != 0)=true:=by simpa [bne] using hr
   generalize a%4=r at *;clear hr h0
   go_enter Tryd.func34,Tryd.ntmps34
   go_wp2_with (with_reducible refine(c _).mono ?_;rintro e w1 ⟨rfl,rfl⟩)
   go_ret
   exact⟨Ya8 (by have:=hz.out;omega),rfl⟩
theorem Yeu (k n:Int)(w:World):Calls Tryd.prog 30 #[.int .i64 k,.int .i64 n] w fun e w'=>e=.returned (.bool (Ylk k n))∧w=w':=by
 have c:=fun w=>Ydc k w;obtain⟨h1,h2,_⟩:=Ych k;rw[←h1,←h2] at c;have hs:(acr k:Int)*(dow k:Int)=(Ycs k:Int):=(Int.natCast_mul _ _).symm;have hw:IntKind.i64.wrap (Ycs k:Int)=(Ycs k:Int):=Yhy (by have:=Yjo k;omega);have hq:=Lib.hid (show Ylk k n=(decide (0≤n)&&decide (n<(Ycs k:Int))) from rfl);generalize Ylk k n=y at *;clear h1 h2;generalize acr k=a at *;generalize dow k=b at *
 generalize Ycs k=m at *;cases t0:decide (0≤n)
 ·rw[t0] at hq
  go_enter Tryd.func30,Tryd.ntmps30
  go_wp2_with (with_reducible refine(c _).mono ?_;rintro e w1 ⟨rfl,rfl⟩)
  go_ret
  exact⟨Yaf (by rw[hq.out];rfl),rfl⟩
 ·rw[t0] at hq
  go_enter Tryd.func30,Tryd.ntmps30
  go_wp2_with (with_reducible refine(c _).mono ?_;rintro e w1 ⟨rfl,rfl⟩)
  go_ret
  exact⟨Yaf (by rw[hq.out];rfl),rfl⟩
theorem Yft (c m:Nat)(v:Int)(w:World)(hc:c≤1000)(hm:m≤1000):Calls Tryd.prog 48 #[.int .i64 (c:Int),.int .i64 (m:Int),.int .i64 v] w fun e w'=>e=.returned (.bool (Ybr c m v))∧w=w':=by
 have hq:=Lib.hid (show Ybr c m v=(decide (-32≤v∧v≤31)&&decide (0≤32*(c:Int)+v∧32*(c:Int)+v+30≤32*(m:Int)-2)) from rfl);generalize Ybr c m v=y at *;by_cases h1:v < -32
 ·have t1:decide (v < -32)=true:=decide_eq_true h1;rw[decide_eq_false (show ¬ (-32≤v∧v≤31) by omega)] at hq
  go_enter Tryd.func48,Tryd.ntmps48
  go_wp2
  go_ret
  exact⟨Yaf (by rw[hq.out];rfl),rfl⟩
 have t1:decide (v < -32)=false:=decide_eq_false h1;by_cases h2:31<v
 ·have t2:decide (31<v)=true:=decide_eq_true h2;rw[decide_eq_false (show ¬ (-32≤v∧v≤31) by omega)] at hq
  go_enter Tryd.func48,Tryd.ntmps48
  go_wp2
  go_ret
  exact⟨Yaf (by rw[hq.out];rfl),rfl⟩
 have t2:decide (31<v)=false:=decide_eq_false h2;rw[decide_eq_true (show -32≤v∧v≤31 by omega)] at hq;by_cases h3:0≤32*(c:Int)+v
 ·have t3:decide (0≤32*(c:Int)+v)=true:=decide_eq_true h3;have hr:decide (0≤32*(c:Int)+v∧32*(c:Int)+v+30≤32*(m:Int)-2)=decide (32*(c:Int)+v+30≤2*(16*(m:Int)-1)):=by
   by_cases h:32*(c:Int)+v+30≤2*(16*(m:Int)-1)
   ·rw[decide_eq_true h,decide_eq_true];omega
   ·rw[decide_eq_false h,decide_eq_false];omega
  rw[hr] at hq;clear hr
  go_enter Tryd.func48,Tryd.ntmps48
  go_wp2
  go_ret
  exact⟨Yaf (by rw[hq.out];rfl),rfl⟩
 ·have t3:decide (0≤32*(c:Int)+v)=false:=decide_eq_false h3;rw[decide_eq_false (show ¬ (0≤32*(c:Int)+v∧32*(c:Int)+v+30≤32*(m:Int)-2) by omega)] at hq
  go_enter Tryd.func48,Tryd.ntmps48
  go_wp2
  go_ret
  exact⟨Yaf (by rw[hq.out];rfl),rfl⟩
theorem Yix {k:Int}{n:Nat}(h:n<Ycs k):(n:Int).tmod (acr k:Int)=((n%acr k:Nat):Int)∧(n:Int).tdiv (acr k:Int)=((n / acr k:Nat):Int)∧IntKind.i64.wrap ((n / acr k:Nat):Int)=((n / acr k:Nat):Int)∧((acr k:Int)==0)=false∧n%acr k<acr k∧n / acr k<dow k∧acr k≤88∧dow k≤72:=by
 obtain⟨h0,h1,h2⟩:=Yca h;obtain⟨-,-,-,-,h3,h4⟩:=Ych k;refine⟨by rw[Int.tmod_eq_emod_of_nonneg (by omega)];rfl,by rw[Int.tdiv_eq_ediv_of_nonneg (by omega)];rfl,Ya3 (by omega),by simp;omega,h1,h2,h3,h4⟩
set_option maxRecDepth 100000 in
set_option maxHeartbeats 2000000 in
theorem Yi4 (k n a b:Int)(w:World):Calls Tryd.prog 31 #[.int .i64 k,.int .i64 n,.agg (Ye6 a b)] w fun e w'=>e=.returned (.bool (Ymz k n a b))∧Below w.heap.size w w':=by
 have c1:=fun w=>Yeu k n w;have c2:=fun w=>Ydc k w;obtain⟨e1,e2,-⟩:=Ych k;rw[←e1,←e2] at c2;clear e1 e2;have hq:=Lib.hid (show Ymz k n a b=(Ylk k n&&(Ybr (n.toNat%acr k) (acr k) a&&Ybr (n.toNat / acr k) (dow k) b)) from rfl);generalize Ymz k n a b=y at *;obtain⟨B,hB⟩:∃B,w.heap.size=B:=⟨_,rfl⟩;obtain⟨wA,hwA⟩:∃wA,w.alloc (.cells (Ye6 a b) 32 (0,0))=wA:=⟨_,rfl⟩
 have hA:wA.heap[B]? =some (.cells (Ye6 a b) 32 (0,0)):=by rw[←hwA,←hB];exact heap_alloc_new w _
 have hz:wA.heap.size=B+1:=by rw[←hwA,←hB];simp
 have HC:=Lib.hid (fun(x:World) (hx:Below (B+1) wA x)=>Yjd ((hx.block B (by omega)).trans hA));have hb:Below w.heap.size w wA:=by rw[←hwA];exact(Below.refl _ w).alloc (Nat.le_refl _) _
 have HE:=Lib.hid (fun(x:World) (hx:Below (B+1) wA x)=>(hb.trans (hx.mono (by omega)):Below w.heap.size w x));unfold Ye6 at *;have HWA:=Lib.hid hwA;have HB:=Lib.hid hB;clear hA hz hb hwA hB;cases hc:Ylk k n with
 |false=>
  rw[hc] at c1 hq;clear hc
  go_enter Tryd.func31,Tryd.ntmps31
  go_wp2_with (first|(with_reducible refine(c1 _).mono ?_;rintro e w1 ⟨rfl,rfl⟩)|(with_reducible refine(c2 _).mono ?_;rintro e w1 ⟨rfl,rfl⟩))
  go_ret
  exact⟨Yaf (by rw[hq.out];rfl),by rw[HWA.out];exact HE.out _ (Below.refl _ _)⟩
 |true=>
  rw[hc] at c1 hq;obtain⟨q0,q1⟩:=Yge.1 hc;obtain⟨q,rfl⟩:∃q:Nat,n=(q:Int):=⟨n.toNat,by omega⟩;rw[Int.toNat_natCast] at hq q1;obtain⟨r1,r2,r3,z0,m1,m2,m3,m4⟩:=Yix q1;have C3:=Lib.hid (fun x (hx:Below (B+1) wA x)=>(Yft (q%acr k) (acr k) a x (by omega) (by omega)).mono fun e y h=>(⟨h.1,h.2▸hx⟩:e=.returned (.bool (Ybr (q%acr k) (acr k) a))∧Below (B+1) wA y))
  have C4:=Lib.hid (fun x (hx:Below (B+1) wA x)=>(Yft (q / acr k) (dow k) b x (by omega) (by omega)).mono fun e y h=>(⟨h.1,h.2▸hx⟩:e=.returned (.bool (Ybr (q / acr k) (dow k) b))∧Below (B+1) wA y));clear hc q1 q0;generalize q%acr k=u at *;generalize q / acr k=v at *;generalize acr k=A at *;generalize dow k=D at *;cases hx:Ybr u A a with
  |false=>
   rw[hx] at C3 hq
   go_enter Tryd.func31,Tryd.ntmps31
   go_wp2_with (first|(with_reducible refine(c1 _).mono ?_;rintro e w1 ⟨rfl,rfl⟩)|(with_reducible refine(c2 _).mono ?_;rintro e w1 ⟨rfl,rfl⟩))
   rw[HWA.out,HB.out];refine Yai (S:=fun x=>Below (B+1) wA x) 17 (by kernel_rfl) (by kernel_rfl) (Below.refl _ _).drew ?_;simp only[List.take_succ_cons,List.take_zero,List.drop_succ_cons,List.drop_zero];refine Yab (v:=?vp0) (by kernel_rfl) ?m ?_;(case m=>(intro x _;go_simp;try with_reducible rfl));simp only[Yaa]
   refine Yab (v:=?vp1) (by kernel_rfl) ?m ?_;(case m=>(intro x _;go_simp;try with_reducible rfl));simp only[Yaa];refine Yab (v:=?vp2) (by kernel_rfl) ?m ?_;(case m=>(intro x _;go_simp;rw[if_neg (by omega)]));simp only[Yaa];refine Yab (v:=?vp3) (by kernel_rfl) ?m ?_;(case m=>(intro x _;go_simp;try with_reducible rfl));simp only[Yaa]
   refine Yab (v:=?vp4) (by kernel_rfl) ?m ?_;(case m=>(intro x _;go_simp;try with_reducible rfl));simp only[Yaa];refine Yal 3 _ ⟨B,0,none⟩ (.int .i64 a) (by kernel_rfl) rfl rfl (fun x hx=>by have c0:=(HC.out x hx).1;go_simp) ?_;simp only[Yaa];refine Yas (by kernel_rfl) C3.out (fun _=>by kernel_rfl) ?_;simp only[Yaa]
   refine Yab (v:=?vp7) (by kernel_rfl) ?m ?_;(case m=>(intro x _;go_simp;try with_reducible rfl));simp only[Yaa];refine Ycj (by kernel_rfl) ?_;simp only[Yaa];refine Ycj (by kernel_rfl) ?_;simp only[Yaa];refine Ycj (by kernel_rfl) ?_;simp only[Yaa];refine Ycj (by kernel_rfl) ?_;simp only[Yaa];refine Ycj (by kernel_rfl) ?_;simp only[Yaa];refine Ycj (by kernel_rfl) ?_;simp only[Yaa]
   refine Ycj (by kernel_rfl) ?_;simp only[Yaa];refine Yab (v:=?vp15) (by kernel_rfl) ?m ?_;(case m=>(intro x _;go_simp;try with_reducible rfl));simp only[Yaa];refine Yab (v:=?vp16) (by kernel_rfl) ?m ?_;(case m=>(intro x _;go_simp;try with_reducible rfl));simp only[Yaa];refine Yba fun x hx=>?_
   go_wp2
   go_ret
   exact⟨Yaf (by rw[hq.out];rfl),HE.out _ hx⟩
  |true=>
   rw[hx] at C3 hq
   go_enter Tryd.func31,Tryd.ntmps31
   go_wp2_with (first|(with_reducible refine(c1 _).mono ?_;rintro e w1 ⟨rfl,rfl⟩)|(with_reducible refine(c2 _).mono ?_;rintro e w1 ⟨rfl,rfl⟩))
   rw[HWA.out,HB.out];refine Yai (S:=fun x=>Below (B+1) wA x) 17 (by kernel_rfl) (by kernel_rfl) (Below.refl _ _).drew ?_;simp only[List.take_succ_cons,List.take_zero,List.drop_succ_cons,List.drop_zero];refine Yab (v:=?vq0) (by kernel_rfl) ?m ?_;(case m=>(intro x _;go_simp;try with_reducible rfl));simp only[Yaa]
   refine Yab (v:=?vq1) (by kernel_rfl) ?m ?_;(case m=>(intro x _;go_simp;try with_reducible rfl));simp only[Yaa];refine Yab (v:=?vq2) (by kernel_rfl) ?m ?_;(case m=>(intro x _;go_simp;rw[if_neg (by omega)]));simp only[Yaa];refine Yab (v:=?vq3) (by kernel_rfl) ?m ?_;(case m=>(intro x _;go_simp;try with_reducible rfl));simp only[Yaa]
   refine Yab (v:=?vq4) (by kernel_rfl) ?m ?_;(case m=>(intro x _;go_simp;try with_reducible rfl));simp only[Yaa];refine Yal 3 _ ⟨B,0,none⟩ (.int .i64 a) (by kernel_rfl) rfl rfl (fun x hx=>by have c0:=(HC.out x hx).1;go_simp) ?_;simp only[Yaa];refine Yas (by kernel_rfl) C3.out (fun _=>by kernel_rfl) ?_;simp only[Yaa]
   refine Yab (v:=?vq7) (by kernel_rfl) ?m ?_;(case m=>(intro x _;go_simp;try with_reducible rfl));simp only[Yaa];refine Yab (v:=?vq8) (by kernel_rfl) ?m ?_;(case m=>(intro x _;go_simp;try with_reducible rfl));simp only[Yaa];refine Yab (v:=?vq9) (by kernel_rfl) ?m ?_;(case m=>(intro x _;go_simp;try with_reducible rfl));simp only[Yaa]
   refine Yab (v:=?vq10) (by kernel_rfl) ?m ?_;(case m=>(intro x _;go_simp;rw[if_neg (by omega)]));simp only[Yaa];refine Yab (v:=?vq11) (by kernel_rfl) ?m ?_;(case m=>(intro x _;go_simp;try with_reducible rfl));simp only[Yaa];refine Yab (v:=?vq12) (by kernel_rfl) ?m ?_;(case m=>(intro x _;go_simp;try with_reducible rfl));simp only[Yaa]
   refine Yal 3 _ ⟨B,1,none⟩ (.int .i64 b) (by kernel_rfl) rfl rfl (fun x hx=>by have c0:=(HC.out x hx).2;go_simp) ?_;simp only[Yaa];refine Yas (by kernel_rfl) C4.out (fun _=>by kernel_rfl) ?_;simp only[Yaa];refine Yab (v:=?vq15) (by kernel_rfl) ?m ?_;(case m=>(intro x _;go_simp;try with_reducible rfl));simp only[Yaa]
   refine Yab (v:=?vq16) (by kernel_rfl) ?m ?_;(case m=>(intro x _;go_simp;try with_reducible rfl));simp only[Yaa];refine Yba fun x hx=>?_
   go_wp2
   go_ret
   exact⟨Yaf (by rw[hq.out];rfl),HE.out _ hx⟩
def Yli (f:Nat→Int)(W x y:Nat):Int:=(f (y / 2*W+x / 2)+f (y / 2*W+x / 2+x%2)+(f (y / 2*W+x / 2+y%2*W)+f (y / 2*W+x / 2+y%2*W+x%2))+2) / 4
theorem Yj5 {s:Int}(h0:0≤s)(h1:s≤1020):round s 2=(s+2) / 4:=by
 unfold round;rw[Yga s _ _ (by omega) (by omega),if_neg (by decide +kernel)]
 rfl
def Yb3 (w:World)(lo:Nat)(c v:Value)(W:Nat):Prop:=∃r1 r2,c=.func (.func 49) #[] #[.pointer (some ⟨r1,0,none⟩),.pointer (some ⟨r2,0,none⟩)]∧w.cell? ⟨r1,0,none⟩=some (.int .i64 (W:Int))∧w.cell? ⟨r2,0,none⟩=some v∧lo≤r1∧lo≤r2
theorem Yb3.below {w w':World}{lo:Nat}{c v:Value}{W:Nat}(h:Yb3 w lo c v W)(hb:Below w.heap.size w w'):Yb3 w' lo c v W:=by
 obtain⟨r1,r2,rfl,h1,h2,h3⟩:=h;exact⟨r1,r2,rfl,(hb.cell (p:=⟨r1,0,none⟩) (World.block_lt_of_cell? w ⟨r1,0,none⟩ h1)).trans h1,(hb.cell (p:=⟨r2,0,none⟩) (World.block_lt_of_cell? w ⟨r2,0,none⟩ h2)).trans h2,h3⟩
theorem Yb3.grown {w w':World}{lo b:Nat}{c v:Value}{W:Nat}(h:Yb3 w lo c v W)(hg:w.grownBy w' (some b))(hb:b<lo):Yb3 w' lo c v W:=by
 obtain⟨r1,r2,rfl,h1,h2,h3,h4⟩:=h;have k1:=hg.block r1 (World.block_lt_of_cell? w ⟨r1,0,none⟩ h1) (by intro e;injection e with e;omega);have k2:=hg.block r2 (World.block_lt_of_cell? w ⟨r2,0,none⟩ h2) (by intro e;injection e with e;omega);exact⟨r1,r2,rfl,(World.cell?_of_block (a:=⟨r1,0,none⟩) k1).trans h1,(World.cell?_of_block (a:=⟨r2,0,none⟩) k2).trans h2,h3,h4⟩
theorem Yb3.mono {w:World}{lo lo':Nat}{c v:Value}{W:Nat}(h:Yb3 w lo c v W)(hl:lo'≤lo):Yb3 w lo' c v W:=by
 obtain⟨r1,r2,rfl,h1,h2,h3,h4⟩:=h;exact⟨r1,r2,rfl,h1,h2,by omega,by omega⟩
set_option maxRecDepth 100000 in
set_option maxHeartbeats 4000000 in
theorem Yl4 (k:Int)(v:Nat→Value)(p:Nat)(w:World)(hp:p<3)(hv:∀p,p<3→∃a n c,v p=.slice a n c):
  Calls Tryd.prog 32 #[.agg (frA k v),.int .i64 (p:Int)] w fun e w'=>∃c,e=.returned c∧Yb3 w' w.heap.size c (v p) (wid k p)∧Below w.heap.size w w':=by
 have cP:=fun w=>Yet k p w;rw[Ylh k p hp] at cP;obtain⟨B,hB⟩:∃B,w.heap.size=B:=⟨_,rfl⟩;obtain⟨wA,hwA⟩:∃wA,w.alloc (.cells (frA k v) 31 (0,0))=wA:=⟨_,rfl⟩;have hA:wA.heap[B]? =some (frO 31 k v):=by rw[←hwA,←hB];exact heap_alloc_new w _
 have hz:wA.heap.size=B+1:=by rw[←hwA,←hB];simp
 have hb:Below B w wA:=by rw[←hwA,←hB];exact(Below.refl _ w).alloc (Nat.le_refl _) _
 have hmf:∀(fn:Fn) (first cap:Array Value) (w:World),(Instr.makeFunc fn first cap).run Tryd.prog w=.ok (.func fn first cap) w:=fun _ _ _ _=>rfl;have hc0:=Yc1 hA;have hcp:=Ypj hA hp;obtain⟨ad,nn,cc,hvp⟩:=hv p hp;rw[hvp] at hcp ⊢;generalize wid k p=W at *;generalize hei k p=H at *;have HWA:=Lib.hid hwA;have HB:=Lib.hid hB;clear hwA hB hA hvp
 go_enter Tryd.func32,Tryd.ntmps32
 go_wp2_with (first|(with_reducible refine(cP _).mono ?_;rintro e w1 ⟨rfl,rfl⟩)|rw[HWA.out,HB.out])
 go_ret
 have hq:=(Below.refl B wA).alloc (by omega) (.cells #[.slice ad nn cc] 28 (0,0));have hq2:=hq.alloc (by simp;omega) (.cells #[.int .i64 (W:Int)] 3 (0,0));rw[HB.out];refine⟨_,rfl,⟨B+1+1,B+1,rfl,?_,?_,by omega,by omega⟩,hb.trans hq2⟩
 ·exact Yad (cs:=[.int .i64 (W:Int)]) (by rw[←hz];have:=heap_alloc_new (wA.alloc (.cells #[.slice ad nn cc] 28 (0,0))) (.cells #[.int .i64 (W:Int)] 3 (0,0));simpa using this) rfl
 ·exact Yad (cs:=[.slice ad nn cc]) (by rw[←hz];exact Yaq (heap_alloc_new wA _)) rfl
set_option maxRecDepth 100000 in
set_option maxHeartbeats 4000000 in
theorem Ylj (r1 r2 b o n c W x y:Nat)(f:Nat→Int)(w:World)(h1:w.cell? ⟨r1,0,none⟩=some (.int .i64 (W:Int)))(h2:w.cell? ⟨r2,0,none⟩=some (.slice (some ⟨b,o,none⟩) n c))(hn:n≤1073741824)(hy:y≤10000)
  (hf:∀i,i<n→w.cell? ⟨b,o+i,none⟩=some (.int .u8 (f i))∧0≤f i∧f i≤255)(hin:y / 2*W+x / 2+y%2*W+x%2<n):
  Calls Tryd.prog 49 #[.int .i64 (x:Int),.int .i64 (y:Int),.pointer (some ⟨r1,0,none⟩),.pointer (some ⟨r2,0,none⟩)] w fun e w'=>e=.returned (.int .i64 (Yli f W x y))∧Below w.heap.size w w':=by
 have e1:(x:Int).tmod 2=((x%2:Nat):Int):=by rw[Int.tmod_eq_emod_of_nonneg (by omega)];rfl
 have e2:(y:Int).tmod 2=((y%2:Nat):Int):=by rw[Int.tmod_eq_emod_of_nonneg (by omega)];rfl
 have e3:(x:Int).tdiv 2=((x / 2:Nat):Int):=by rw[Int.tdiv_eq_ediv_of_nonneg (by omega)];rfl
 have e4:(y:Int).tdiv 2=((y / 2:Nat):Int):=by rw[Int.tdiv_eq_ediv_of_nonneg (by omega)];rfl
 have b1:x%2≤1:=by omega
 have b2:y%2≤1:=by omega
 have hq:=Lib.hid (show Yli f W x y=(f (y / 2*W+x / 2)+f (y / 2*W+x / 2+x%2)+(f (y / 2*W+x / 2+y%2*W)+f (y / 2*W+x / 2+y%2*W+x%2))+2) / 4 from rfl);generalize Yli f W x y=res at *;generalize x%2=xr at *;generalize x / 2=xq at *;generalize hyr:y%2=yr at *;generalize hyq:y / 2=yq at *;have hyq2:yq≤10000:=by omega
 clear hyr hyq;obtain⟨mb,hmb⟩:∃mb,yr*W=mb:=⟨_,rfl⟩;obtain⟨m,hm⟩:∃m,yq*W=m:=⟨_,rfl⟩;have M1:(yr:Int)*(W:Int)=(mb:Int):=by rw[←hmb];exact(Int.natCast_mul _ _).symm
 have M2:(yq:Int)*(W:Int)=(m:Int):=by rw[←hm];exact(Int.natCast_mul _ _).symm
 rw[hm,hmb] at hin hq;clear hm hmb;obtain⟨A,hA⟩:∃A,m+xq=A:=⟨_,rfl⟩;rw[hA] at hin hq;have M3:(m:Int)+(xq:Int)=(A:Int):=by omega
 have u1:IntKind.i64.wrap (mb:Int)=(mb:Int):=Ya3 (by omega);have u2:IntKind.i64.wrap (m:Int)=(m:Int):=Ya3 (by omega);have u3:IntKind.i64.wrap (xq:Int)=(xq:Int):=Ya3 (by omega);have u5:IntKind.i64.wrap (A:Int)=(A:Int):=Ya3 (by omega);have u4:IntKind.i64.wrap (yq:Int)=(yq:Int):=Ya3 (by omega);obtain⟨p0,q0⟩:=hf A (by omega);obtain⟨p1,q1⟩:=hf (A+xr) (by omega);obtain⟨p2,q2⟩:=hf (A+mb) (by omega)
 obtain⟨p3,q3⟩:=hf (A+mb+xr) (by omega);obtain⟨s1,hs1⟩:∃s,A+xr=s:=⟨_,rfl⟩;obtain⟨s2,hs2⟩:∃s,A+mb=s:=⟨_,rfl⟩;obtain⟨s3,hs3⟩:∃s,A+mb+xr=s:=⟨_,rfl⟩;have v1:(A:Int)+(xr:Int)=(s1:Int):=by omega
 have v2:(A:Int)+(mb:Int)=(s2:Int):=by omega
 have v3:(s2:Int)+(xr:Int)=(s3:Int):=by omega
 have u6:IntKind.i64.wrap (s1:Int)=(s1:Int):=Ya3 (by omega);have u7:IntKind.i64.wrap (s2:Int)=(s2:Int):=Ya3 (by omega);have u8:IntKind.i64.wrap (s3:Int)=(s3:Int):=Ya3 (by omega);have i0:A<n:=by omega
 have i1:s1<n:=by omega
 have i2:s2<n:=by omega
 have i3:s3<n:=by omega
 have hr:=Lib.hid (fun x=>Yfw (f A+f (A+xr)+(f (A+mb)+f (A+mb+xr))) 2 x);rw[Yj5 (by omega) (by omega),←hq.out] at hr;rw[hs1] at p1 q1 hr;rw[hs3] at p3 q3 hr;rw[hs2] at p2 q2 hr;generalize f A=z0 at *;generalize f s1=z1 at *;generalize f s2=z2 at *;generalize f s3=z3 at *;clear hA hf hq hs1 hs2 hs3 hin
 have L:=fun{ad:Addr} {v:Value} (h:w.cell? ad=some v) (hs:ad=⟨ad.block,ad.off,none⟩) (x:World) (hx:Below w.heap.size w x)=>(hx.cell (p:=ad) (World.block_lt_of_cell? w ad h)).trans h;have HW:=Lib.hid (L h1 rfl);have HS:=Lib.hid (L h2 rfl);have P0:=Lib.hid (L p0 rfl);have P1:=Lib.hid (L p1 rfl);have P2:=Lib.hid (L p2 rfl);have P3:=Lib.hid (L p3 rfl);clear L h1 h2 p0 p1 p2 p3
 go_enter Tryd.func49,Tryd.ntmps49
 go_wp2
 refine Yai (S:=fun x=>Below w.heap.size w x) 8 (by kernel_rfl) (by kernel_rfl) (Below.refl _ _).drew ?_;simp only[List.take_succ_cons,List.take_zero,List.drop_succ_cons,List.drop_zero];refine Yab (v:=?va0) (by kernel_rfl) ?m ?_;(case m=>(intro x _;go_simp;try with_reducible rfl));simp only[Yaa];refine Yab (v:=?va1) (by kernel_rfl) ?m ?_;(case m=>(intro x _;go_simp;try with_reducible rfl))
 simp only[Yaa];refine Yab (v:=?va2) (by kernel_rfl) ?m ?_;(case m=>(intro x _;go_simp;try with_reducible rfl));simp only[Yaa];refine Yab (v:=?va3) (by kernel_rfl) ?m ?_;(case m=>(intro x _;go_simp;try with_reducible rfl));simp only[Yaa];refine Yal 3 _ ⟨r1,0,none⟩ (.int .i64 (W:Int)) (by kernel_rfl) rfl rfl (fun x hx=>by have c0:=HW.out x hx;go_simp) ?_;simp only[Yaa]
 refine Yab (v:=?va5) (by kernel_rfl) ?m ?_;(case m=>(intro x _;go_simp;try with_reducible rfl));simp only[Yaa];refine Yab (v:=?va6) (by kernel_rfl) ?m ?_;(case m=>(intro x _;go_simp;try with_reducible rfl));simp only[Yaa];refine Yab (v:=?va7) (by kernel_rfl) ?m ?_;(case m=>(intro x _;go_simp;try with_reducible rfl));simp only[Yaa];refine Yba fun x hx=>?_;have l1:=HW.out x hx;have l2:=HS.out x hx
 have l3:=P0.out x hx;have l4:=P1.out x hx;have l5:=P2.out x hx;have l6:=P3.out x hx
 go_wp2
 refine Yai (S:=fun x=>Below w.heap.size w x) 14 (by kernel_rfl) (by kernel_rfl) hx.drew ?_;simp only[List.take_succ_cons,List.take_zero,List.drop_succ_cons,List.drop_zero];clear l1 l2 l3 l4 l5 l6;refine Yal 28 _ ⟨r2,0,none⟩ (.slice (some ⟨b,o,none⟩) n c) (by kernel_rfl) rfl rfl (fun x hx=>by have c0:=HS.out x hx;go_simp) ?_;simp only[Yaa]
 refine Yab (v:=?vb1) (by kernel_rfl) ?m ?_;(case m=>(intro x _;go_simp;try with_reducible rfl));simp only[Yaa];refine Yab (v:=?vb2) (by kernel_rfl) ?m ?_;(case m=>(intro x _;go_simp;try with_reducible rfl));simp only[Yaa];refine Yal 5 _ ⟨b,o+A,none⟩ (.int .u8 z0) (by kernel_rfl) rfl rfl (fun x hx=>by have c0:=P0.out x hx;go_simp) ?_;simp only[Yaa]
 refine Yab (v:=?vb4) (by kernel_rfl) ?m ?_;(case m=>(intro x _;go_simp;try with_reducible rfl));simp only[Yaa];refine Yal 28 _ ⟨r2,0,none⟩ (.slice (some ⟨b,o,none⟩) n c) (by kernel_rfl) rfl rfl (fun x hx=>by have c0:=HS.out x hx;go_simp) ?_;simp only[Yaa];refine Yab (v:=?vb6) (by kernel_rfl) ?m ?_;(case m=>(intro x _;go_simp;try with_reducible rfl));simp only[Yaa]
 refine Yab (v:=?vb7) (by kernel_rfl) ?m ?_;(case m=>(intro x _;go_simp;try with_reducible rfl));simp only[Yaa];refine Yab (v:=?vb8) (by kernel_rfl) ?m ?_;(case m=>(intro x _;go_simp;try with_reducible rfl));simp only[Yaa];refine Yab (v:=?vb9) (by kernel_rfl) ?m ?_;(case m=>(intro x _;go_simp;try with_reducible rfl));simp only[Yaa]
 refine Yal 5 _ ⟨b,o+s1,none⟩ (.int .u8 z1) (by kernel_rfl) rfl rfl (fun x hx=>by have c0:=P1.out x hx;go_simp) ?_;simp only[Yaa];refine Yab (v:=?vb11) (by kernel_rfl) ?m ?_;(case m=>(intro x _;go_simp;try with_reducible rfl));simp only[Yaa];refine Yab (v:=?vb12) (by kernel_rfl) ?m ?_;(case m=>(intro x _;go_simp;try with_reducible rfl));simp only[Yaa]
 refine Yab (v:=?vb13) (by kernel_rfl) ?m ?_;(case m=>(intro x _;go_simp;try with_reducible rfl));simp only[Yaa];refine Yba fun x hx=>?_
 go_wp2
 refine Yai (S:=fun x=>Below w.heap.size w x) 18 (by kernel_rfl) (by kernel_rfl) hx.drew ?_;simp only[List.take_succ_cons,List.take_zero,List.drop_succ_cons,List.drop_zero];refine Yal 28 _ ⟨r2,0,none⟩ (.slice (some ⟨b,o,none⟩) n c) (by kernel_rfl) rfl rfl (fun x hx=>by have c0:=HS.out x hx;go_simp) ?_;simp only[Yaa]
 refine Yab (v:=?vc1) (by kernel_rfl) ?m ?_;(case m=>(intro x _;go_simp;try with_reducible rfl));simp only[Yaa];refine Yab (v:=?vc2) (by kernel_rfl) ?m ?_;(case m=>(intro x _;go_simp;try with_reducible rfl));simp only[Yaa];refine Yab (v:=?vc3) (by kernel_rfl) ?m ?_;(case m=>(intro x _;go_simp;try with_reducible rfl));simp only[Yaa]
 refine Yab (v:=?vc4) (by kernel_rfl) ?m ?_;(case m=>(intro x _;go_simp;try with_reducible rfl));simp only[Yaa];refine Yal 5 _ ⟨b,o+s2,none⟩ (.int .u8 z2) (by kernel_rfl) rfl rfl (fun x hx=>by have c0:=P2.out x hx;go_simp) ?_;simp only[Yaa];refine Yab (v:=?vc6) (by kernel_rfl) ?m ?_;(case m=>(intro x _;go_simp;try with_reducible rfl));simp only[Yaa]
 refine Yal 28 _ ⟨r2,0,none⟩ (.slice (some ⟨b,o,none⟩) n c) (by kernel_rfl) rfl rfl (fun x hx=>by have c0:=HS.out x hx;go_simp) ?_;simp only[Yaa];refine Yab (v:=?vc8) (by kernel_rfl) ?m ?_;(case m=>(intro x _;go_simp;try with_reducible rfl));simp only[Yaa];refine Yab (v:=?vc9) (by kernel_rfl) ?m ?_;(case m=>(intro x _;go_simp;try with_reducible rfl));simp only[Yaa]
 refine Yab (v:=?vc10) (by kernel_rfl) ?m ?_;(case m=>(intro x _;go_simp;try with_reducible rfl));simp only[Yaa];refine Yab (v:=?vc11) (by kernel_rfl) ?m ?_;(case m=>(intro x _;go_simp;try with_reducible rfl));simp only[Yaa];refine Yab (v:=?vc12) (by kernel_rfl) ?m ?_;(case m=>(intro x _;go_simp;try with_reducible rfl));simp only[Yaa]
 refine Yab (v:=?vc13) (by kernel_rfl) ?m ?_;(case m=>(intro x _;go_simp;try with_reducible rfl));simp only[Yaa];refine Yal 5 _ ⟨b,o+s3,none⟩ (.int .u8 z3) (by kernel_rfl) rfl rfl (fun x hx=>by have c0:=P3.out x hx;go_simp) ?_;simp only[Yaa];refine Yab (v:=?vc15) (by kernel_rfl) ?m ?_;(case m=>(intro x _;go_simp;try with_reducible rfl));simp only[Yaa]
 refine Yab (v:=?vc16) (by kernel_rfl) ?m ?_;(case m=>(intro x _;go_simp;try with_reducible rfl));simp only[Yaa];refine Yab (v:=?vc17) (by kernel_rfl) ?m ?_;(case m=>(intro x _;go_simp;try with_reducible rfl));simp only[Yaa];refine Yba fun x hx=>?_
 go_wp2_with (with_reducible refine(hr.out _).mono ?_;rintro e w1 ⟨rfl,rfl⟩)
 go_ret
 exact⟨rfl,hx⟩
theorem Ymn {w:World}{lo:Nat}{s v:Value}{W n:Nat}{f:Nat→Int}(hs:Yb3 w lo s v W)(hv:Ym2 w v n f)(hn:n≤1073741824)(x y:Nat)(hy:y≤10000)(hin:y / 2*W+x / 2+y%2*W+x%2<n):
  ∃r1 r2,s=.func (.func 49) #[] #[.pointer (some ⟨r1,0,none⟩),.pointer (some ⟨r2,0,none⟩)]∧Calls Tryd.prog 49 #[.int .i64 (x:Int),.int .i64 (y:Int),.pointer (some ⟨r1,0,none⟩),.pointer (some ⟨r2,0,none⟩)] w fun e w'=>e=.returned (.int .i64 (Yli f W x y))∧Below w.heap.size w w':=by
 obtain⟨r1,r2,rfl,h1,h2,-⟩:=hs;obtain⟨p,c,rfl,-,h⟩:=hv;rcases h with h|⟨b,o,rfl,h⟩
 ·omega
 ·exact⟨r1,r2,rfl,Ylj r1 r2 b o n c W x y f w h1 h2 hn hy h hin⟩
def Yjk (f:Nat→Int)(W L T:Nat):Nat→Int:=fun i=>Yli f W (L+2*(i%8)) (T+2*(i / 8))
def InT (n W L T:Nat):Prop:=∀i,i<64→(T+2*(i / 8)) / 2*W+(L+2*(i%8)) / 2+(T+2*(i / 8))%2*W+(L+2*(i%8))%2<n
set_option maxRecDepth 100000 in
set_option maxHeartbeats 8000000 in
theorem Ykg (s v:Value)(W n cl ln L T:Nat)(f:Nat→Int)(a b:Int)(w:World)(lo:Nat)(hs:Yb3 w lo s v W)(hv:Ym2 w v n f)(hn:n≤1073741824)(hcl:cl≤1000)(hln:ln≤1000)(hL:16*(cl:Int)+a=(L:Int))(hT:16*(ln:Int)+b=(T:Int))(hL2:L≤9000)(hT2:T≤9000)(hin:InT n W L T):
  Calls Tryd.prog 33 #[s,.int .i64 (cl:Int),.int .i64 (ln:Int),.agg (Ye6 a b)] w fun e w'=>e=.returned (.agg (Yav (Yjk f W L T)))∧Below w.heap.size w w':=by
 obtain⟨B,wA,wB,wC,hB,hwA,hwB,hwC,hzA,hzB,hzC,hC0,hC1,hC2,hbC⟩:=Yif w (.cells (Ye6 a b) 32 (0,0)) (.cells (Yav fun _=>0) 22 (0,0)) (.cells (Yav fun _=>0) 22 (0,0))
 replace hC2:wC.heap[B+2]? =some (Yeb (Ya7 (Yjk f W L T) 0)):=hC2
 have HT:=Lib.hid (fun(x:World) (hx:Below B w x) (i:Nat) (hi:i<64)=>Ymn (hs.below (by rw[hB];exact hx)) (hv.below (by rw[hB];exact hx)) hn (L+2*(i%8)) (T+2*(i / 8)) (by omega) (hin i hi));obtain⟨r1,r2,rfl,-⟩:=hs;have HP:=Lib.hid (fun(x:World) (hx:Below B w x) (i:Nat) (hi:i<64)=>(by
  obtain⟨q1,q2,e,c⟩:=HT.out x hx i hi;simp at e;obtain⟨rfl,rfl⟩:=e;exact c:Calls Tryd.prog 49 #[.int .i64 ((L+2*(i%8):Nat):Int),.int .i64 ((T+2*(i / 8):Nat):Int),.pointer (some ⟨r1,0,none⟩),.pointer (some ⟨r2,0,none⟩)] x fun e w'=>e=.returned (.int .i64 (Yjk f W L T i))∧Below x.heap.size x w'))
 clear HT;obtain⟨l0,l1⟩:=Yjd hC0;have hC0':=hC0;have hz0:=Ybp;have HSY:(Yav fun _=>0).size=64:=Yag _;obtain⟨Y,hY⟩:∃Y,(Yav fun _=>0)=Y:=⟨_,rfl⟩;rw[hY] at hwB hwC hz0 HSY hC1;obtain⟨X,hX⟩:∃X,Ye6 a b=X:=⟨_,rfl⟩;have HS2:=Ycx a b;rw[hX] at hwA HS2 hC0 ⊢;have u1:IntKind.i64.wrap (16*(cl:Int))=16*(cl:Int):=Yhy (by omega);have u2:IntKind.i64.wrap (16*(ln:Int))=16*(ln:Int):=Yhy (by omega)
 have u3:IntKind.i64.wrap (L:Int)=(L:Int):=Ya3 (by omega);have u4:IntKind.i64.wrap (T:Int)=(T:Int):=Ya3 (by omega);have HY:=Lib.hid hY;have HWA:=Lib.hid hwA;have HWB:=Lib.hid hwB;have HWC:=Lib.hid hwC;have HB:=Lib.hid hB;have HLL:=Lib.hid hL;have HTT:=Lib.hid hT;have HC:=Lib.hid (fun(x:World) (hx:Below (B+3) wC x)=>Yjd ((hx.block B (by omega)).trans hC0'))
 clear hX hY hwA hwB hwC hB hin hv hC0' l0 l1
 go_enter Tryd.func33,Tryd.ntmps33
 go_wp2
 rw[HWA.out,HB.out,HWB.out,HWC.out];refine Yai (S:=fun x=>Below (B+3) wC x) 12 (by kernel_rfl) (by kernel_rfl) (Below.refl _ _).drew ?_;simp only[List.take_succ_cons,List.take_zero,List.drop_succ_cons,List.drop_zero];refine Yab (v:=?v0) (by kernel_rfl) ?m ?_;(case m=>(intro x _;go_simp;try with_reducible rfl));simp only[Yaa]
 refine Yab (v:=?v1) (by kernel_rfl) ?m ?_;(case m=>(intro x _;go_simp;try with_reducible rfl));simp only[Yaa];refine Yab (v:=?v2) (by kernel_rfl) ?m ?_;(case m=>(intro x _;go_simp;try with_reducible rfl));simp only[Yaa];refine Yal 3 _ ⟨B,0,none⟩ (.int .i64 a) (by kernel_rfl) rfl rfl (fun x hx=>by have c0:=(HC.out x hx).1;go_simp) ?_;simp only[Yaa]
 refine Yab (v:=?v4) (by kernel_rfl) ?m ?_;(case m=>(intro x _;go_simp;try with_reducible rfl));simp only[Yaa];refine Yab (v:=?v5) (by kernel_rfl) ?m ?_;(case m=>(intro x _;go_simp;try with_reducible rfl));simp only[Yaa];refine Yab (v:=?v6) (by kernel_rfl) ?m ?_;(case m=>(intro x _;go_simp;try with_reducible rfl));simp only[Yaa]
 refine Yab (v:=?v7) (by kernel_rfl) ?m ?_;(case m=>(intro x _;go_simp;try with_reducible rfl));simp only[Yaa];refine Yal 3 _ ⟨B,1,none⟩ (.int .i64 b) (by kernel_rfl) rfl rfl (fun x hx=>by have c0:=(HC.out x hx).2;go_simp) ?_;simp only[Yaa];refine Yab (v:=?v9) (by kernel_rfl) ?m ?_;(case m=>(intro x _;go_simp;try with_reducible rfl));simp only[Yaa]
 refine Yab (v:=?v10) (by kernel_rfl) ?m ?_;(case m=>(intro x _;go_simp;try with_reducible rfl));simp only[Yaa];refine Yab (v:=?v11) (by kernel_rfl) ?m ?_;(case m=>(intro x _;go_simp;try with_reducible rfl));simp only[Yaa];refine Yba fun x hx=>?_;have h1:=(hx.block (B+1) (by omega)).trans hC1;have h2:=(hx.block (B+2) (by omega)).trans hC2;have hbx:=hbC.trans (hx.mono (by omega))
 have hzx:B+3≤x.heap.size:=by have:=hx.size;omega
 clear hC0 hC1 hC2 hbC hzA hzB hzC hL hT hx;have HQ:=Lib.hid (fun i=>show Ya7 (Yjk f W L T) (i+1)=Yb2 (Ya7 (Yjk f W L T) i) i (Yjk f W L T i) from rfl);have HV64:=Lib.hid (Yof (Yjk f W L T));obtain⟨g,hg⟩:∃g,Yjk f W L T=g:=⟨_,rfl⟩;rw[hg] at HP HQ HV64;have HG:=Lib.hid hg;clear hg
 go_wp2
 go_loopw [23] (fun z wr=>∃i:Nat,i≤64∧z=.int .i64 i∧wr.heap[B+1]? =some (.cells Y 22 (0,0))∧wr.heap[B+2]? =some (Yeb (Ya7 g i))∧Below B w wr∧B+3≤wr.heap.size) (fun z _=>64-(intOf z).toNat)
 case atStart=>exact⟨0,by omega,rfl,h1,h2,hbx,hzx⟩
 case round=>
  clear h1 h2 hbx hzx;obtain⟨i,hi64,rfl,h1,h2,hb,hz⟩:=hrel;by_cases hlt:i<64
  ·have t0:decide ((i:Int)<64)=true:=by simp;omega
   have cs:=HP.out wr hb i hlt;have e1:(i:Int).tmod 8=((i%8:Nat):Int):=by rw[Int.tmod_eq_emod_of_nonneg (by omega)];rfl
   have e2:(i:Int).tdiv 8=((i / 8:Nat):Int):=by rw[Int.tdiv_eq_ediv_of_nonneg (by omega)];rfl
   have e3:IntKind.i64.wrap ((i / 8:Nat):Int)=((i / 8:Nat):Int):=Ya3 (by omega);have b1:i%8<8:=by omega
   have b2:i / 8<8:=by omega
   have S1:(L:Int)+((i%8:Nat):Int)*2=((L+2*(i%8):Nat):Int):=by omega
   have S2:(T:Int)+((i / 8:Nat):Int)*2=((T+2*(i / 8):Nat):Int):=by omega
   have S3:IntKind.i64.wrap ((L+2*(i%8):Nat):Int)=((L+2*(i%8):Nat):Int):=Ya3 (by omega);have S4:IntKind.i64.wrap ((T+2*(i / 8):Nat):Int)=((T+2*(i / 8):Nat):Int):=Ya3 (by omega);generalize L+2*(i%8)=xx at *;generalize T+2*(i / 8)=yy at *;generalize i%8=u at *;generalize i / 8=q at *;have S:=HQ.out i;generalize hy:g i=y at cs S
   go_wp2_with fail
   refine cs.mono ?_;rintro e x1 ⟨rfl,hb1⟩;have k1:=(hb1.block (B+1) (by omega)).trans h1;have k2:=(hb1.block (B+2) (by omega)).trans h2;have kb:=hb.trans (hb1.mono (by omega));have kz:B+3≤x1.heap.size:=by have:=hb1.size;omega
   have c2:=Yc0 k2 hlt;have ff:=Ydm (i:=i) k2;generalize Ya7 g i i=y2 at c2
   have PUT:=Lib.hid (⟨Ybb k1 (by simp),by rw[S];exact Yem y k2,kb.setCell (by simp;omega) _,by simp[World.setCell];omega⟩:(x1.setCell ⟨B+1+1,i,none⟩ (.int .i64 y)).heap[B+1]? =some (.cells Y 22 (0,0))∧(x1.setCell ⟨B+1+1,i,none⟩ (.int .i64 y)).heap[B+2]? =some (Yeb (Ya7 g (i+1)))∧Below B w (x1.setCell ⟨B+1+1,i,none⟩ (.int .i64 y))∧B+3≤(x1.setCell ⟨B+1+1,i,none⟩ (.int .i64 y)).heap.size)
   clear h1 h2 hb hz k1 k2 kb kz S cs hb1 S1 S2 S3 S4
   go_wp2
   go_roundw
   case rel=>exact⟨i+1,by omega,by go_num,PUT.out⟩
   case measure=>simp[intOf] <;> omega
  ·obtain rfl:i=64:=by omega
   have t0:decide ((64:Int)<64)=false:=by simp
   obtain⟨V,hV⟩:∃V,Yav g=V:=⟨_,rfl⟩;have hV2:Yav (Ya7 g 64)=V:=by rw[←hV];exact Ydt HV64.out
   have HV:=Lib.hid hV;have h2':wr.heap[B+2]? =some (.cells V 22 (0,0)):=by rw[←hV2];exact h2
   have HSV:(Tryd.prog.info? 22).map (·.size)=some V.size:=by rw[←hV];exact Yam _
   have HOV:V.all (·.oneCell')=true:=by rw[←hV];exact Ya0 _
   have HYV:Y.size=V.size:=by rw[←hV,HSY,Yag]
   clear hV hV2 h2
   go_wp2_with (first|(with_reducible refine wpList_load_row rfl 22 _ rfl (B+2) rfl 22 V (0,0) _ h2' Tryd.underlying22 rfl HSV ?_)|(with_reducible refine Yac rfl 22 _ _ rfl (B+1) V Y rfl rfl 22 h1 HSV HYV HOV ?_;intro w2 hh2 hg2))
   refine bodyPost_ret (results_cell_row rfl _ _ (B+1) 22 _ (0,0) _ rfl hh2 Tryd.underlying22 rfl HSV) rfl ?_;exact⟨by rw[HG.out,HV.out],by rw[HB.out];exact hb.grown hg2 (by omega) (fun k hk=>by injection hk with hk;omega)⟩
end Go.Proofs.YtdnjefldijjgdaaDoor