/- No condition. -/
import Derived.Test.YtdnjefldijjgdaaDoorRebuildSumsMb
import Derived.Test.YtdnjefldijjgdaaDoorRows
import Derived.WalkKit
import Derived.ProofKit
import Derived.Lib.Hide
import Derived.LoopTactic
namespace Go.Proofs.YtdnjefldijjgdaaDoor
open Go.RowKit
set_option maxHeartbeats 400000 in
theorem Yaw (n lo hi:Int)(w:World):
  Calls Tryd.prog 19 #[.int .i64 n,.int .i64 lo,.int .i64 hi] w fun e w'=>e=.returned (.int .i64 (Ya1 n lo hi))∧w=w':=by
 go_enter Tryd.func19,Tryd.ntmps19
 go_wp2
 all_goals (go_ret;exact⟨Ya8 (by unfold Ya1;omega),rfl⟩)
set_option maxHeartbeats 400000 in
theorem Yer (n lo hi:Int)(w:World):
  Calls Tryd.prog 12 #[.int .i64 n,.int .i64 lo,.int .i64 hi] w fun e w'=>e=.returned (.int .i64 (Ya1 n lo hi))∧w=w':=by
 by_cases h1:hi<lo
 ·go_enter Tryd.func12,Tryd.ntmps12
  go_wp2
  all_goals (go_ret;exact⟨Ya8 (by unfold Ya1;omega),rfl⟩)
 ·by_cases h2:n<lo
  ·go_enter Tryd.func12,Tryd.ntmps12
   go_wp2
   all_goals (go_ret;exact⟨Ya8 (by unfold Ya1;omega),rfl⟩)
  ·go_enter Tryd.func12,Tryd.ntmps12
   go_wp2
   all_goals (go_ret;exact⟨Ya8 (by unfold Ya1;omega),rfl⟩)
def Yko (n q:Int):Int:=if n=0 then 0 else if q%2=0 then q*(2*n+1)-1 else q*(2*n+1)
theorem Yis {n q:Int}(h0:0≤n)(h1:n≤127)(h2:1≤q)(h3:q≤31):1≤q*(2*n+1)∧q*(2*n+1)≤7905:=by
 have a:=Int.mul_le_mul h2 (show (1:Int)≤2*n+1 by omega) (by omega) (by omega);have b:=Int.mul_le_mul h3 (show 2*n+1≤255 by omega) (by omega) (by omega);omega
theorem Yoz {n q:Int}(h0:0≤n)(h1:n≤127)(h2:1≤q)(h3:q≤31):0≤Yko n q∧Yko n q≤7905:=by
 have h:=Yis h0 h1 h2 h3;unfold Yko
 split
 ·omega
 ·split <;> omega
def Yp8 (l q:Int):Int:=Ya1 (if Ya1 l (-127) 127<0 then -(Yko (-(Ya1 l (-127) 127)) (Ya1 q 1 31)) else Yko (Ya1 l (-127) 127) (Ya1 q 1 31)) (-2048) 2047
def dcV (d:Int):Int:=8*Ya1 d 1 254
theorem Yos {q:Int}(h:0≤q):q.tmod 2=q%2:=Int.tmod_eq_emod_of_nonneg h
set_option maxHeartbeats 400000 in
theorem Yir (n q:Int)(h0:0≤n)(h1:n≤127)(h2:1≤q)(h3:q≤31)(w:World):
  Calls Tryd.prog 64 #[.int .i64 n,.int .i64 q] w fun e w'=>e=.returned (.int .i64 (Yko n q))∧w=w':=by
 obtain⟨p1,p2⟩:=Yis h0 h1 h2 h3;have ht:=Yos (q:=q) (by omega);by_cases e0:n=0
 ·subst e0;clear ht p1 p2
  go_enter Tryd.func64,Tryd.ntmps64
  go_wp2
  go_ret
  exact⟨rfl,rfl⟩
 ·have t0:(n==0)=false:=by simpa using e0
  have F:Yko n q=if q%2=0 then q*(2*n+1)-1 else q*(2*n+1):=by unfold Yko;rw[if_neg e0]
  by_cases e1:q%2=0
  ·rw[if_pos e1] at F;rw[e1] at ht;have HF:=Lib.hid F;clear F e1 e0
   go_enter Tryd.func64,Tryd.ntmps64
   go_wp2
   go_ret
   exact⟨Ya8 HF.out.symm,rfl⟩
  ·rw[if_neg e1] at F;have e2:q%2=1:=by omega
   rw[e2] at ht;have HF:=Lib.hid F;clear F e1 e0 e2
   go_enter Tryd.func64,Tryd.ntmps64
   go_wp2
   go_ret
   exact⟨Ya8 HF.out.symm,rfl⟩
set_option maxHeartbeats 400000 in
theorem Yoy (l q:Int)(w:World):Calls Tryd.prog 58 #[.int .i64 l,.int .i64 q] w fun e w'=>e=.returned (.int .i64 (Yp8 l q))∧w=w':=by
 have q1:=Ybt q 1 31;have q2:=Ybs q 1 31 (by omega);have l1:=Ybt l (-127) 127;have l2:=Ybs l (-127) 127 (by omega);have c1:=fun w=>Yaw q 1 31 w;have c2:=fun w=>Yaw l (-127) 127 w;have F:Yp8 l q=Ya1 (if Ya1 l (-127) 127<0 then -(Yko (-(Ya1 l (-127) 127)) (Ya1 q 1 31)) else Yko (Ya1 l (-127) 127) (Ya1 q 1 31)) (-2048) 2047:=rfl;generalize Ya1 q 1 31=qq at *;generalize Ya1 l (-127) 127=n at *
 by_cases hn:n<0
 ·rw[if_pos hn] at F;have a1:=Yoz (n:=-n) (q:=qq) (by omega) (by omega) q1 q2;have c3:=fun w=>Yir (-n) qq (by omega) (by omega) q1 q2 w;generalize Yko (-n) qq=y at *;have c4:=fun w=>Yaw (-y) (-2048) 2047 w;rw[←F] at c4;clear F;have t0:decide (n<0)=true:=by simpa using hn
  go_enter Tryd.func58,Tryd.ntmps58
  go_wp2_with (first
   |(with_reducible refine(c1 _).mono ?_;rintro e w1 ⟨rfl,rfl⟩)
   |(with_reducible refine(c2 _).mono ?_;rintro e w1 ⟨rfl,rfl⟩)
   |(with_reducible refine(c3 _).mono ?_;rintro e w1 ⟨rfl,rfl⟩)
   |(with_reducible refine(c4 _).mono ?_;rintro e w1 ⟨rfl,rfl⟩))
  all_goals (go_ret;exact⟨rfl,rfl⟩)
 ·rw[if_neg hn] at F;have a1:=Yoz (n:=n) (q:=qq) (by omega) (by omega) q1 q2;have c3:=fun w=>Yir n qq (by omega) (by omega) q1 q2 w;generalize Yko n qq=y at *;have c4:=fun w=>Yaw y (-2048) 2047 w;rw[←F] at c4;clear F;have t0:decide (n<0)=false:=by simpa using hn
  go_enter Tryd.func58,Tryd.ntmps58
  go_wp2_with (first
   |(with_reducible refine(c1 _).mono ?_;rintro e w1 ⟨rfl,rfl⟩)
   |(with_reducible refine(c2 _).mono ?_;rintro e w1 ⟨rfl,rfl⟩)
   |(with_reducible refine(c3 _).mono ?_;rintro e w1 ⟨rfl,rfl⟩)
   |(with_reducible refine(c4 _).mono ?_;rintro e w1 ⟨rfl,rfl⟩))
  all_goals (go_ret;exact⟨rfl,rfl⟩)
set_option maxHeartbeats 400000 in
theorem Ypg (d:Int)(w:World):Calls Tryd.prog 59 #[.int .i64 d] w fun e w'=>e=.returned (.int .i64 (dcV d))∧w=w':=by
 have q1:=Ybt d 1 254;have q2:=Ybs d 1 254 (by omega);have c1:=fun w=>Yaw d 1 254 w;have F:=Lib.hid (show dcV d=8*Ya1 d 1 254 from rfl);generalize Ya1 d 1 254=x at *
 go_enter Tryd.func59,Tryd.ntmps59
 go_wp2_with (with_reducible refine(c1 _).mono ?_;rintro e w1 ⟨rfl,rfl⟩)
 go_ret
 exact⟨Ya8 F.out.symm,rfl⟩
set_option maxHeartbeats 400000 in
theorem Yhz (n:Int)(w:World):
  Calls Tryd.prog 62 #[.int .i64 n] w fun e w'=>e=.returned (.int .i64 (Yh3 n))∧w=w':=by
 have ha:=Yqd n;have h1:0≤n%64:=by omega
 have h2:n%64≤63:=by omega
 go_enter Tryd.func62,Tryd.ntmps62
 go_wp2
 all_goals (go_ret;exact⟨Ya8 (by unfold Yh3;omega),rfl⟩)
set_option maxHeartbeats 400000 in
theorem Yfw (n bits:Int)(w:World):
  Calls Tryd.prog 50 #[.int .i64 n,.int .i64 bits] w fun e w'=>e=.returned (.int .i64 (round n bits))∧w=w':=by
 have n1:=Ybt n (-1099511627776) 1099511627776;have n2:=Ybs n (-1099511627776) 1099511627776 (by omega);have b1:=Ybt bits 0 32;have b2:=Ybs bits 0 32 (by omega);by_cases h0:Ya1 bits 0 32=0
 ·have hz:round n bits=Ya1 n (-1099511627776) 1099511627776:=by unfold round;rw[if_pos h0]
  have Z:=Lib.hid hz;have ht:(Ya1 bits 0 32==0)=true:=by simpa using h0
  clear hz h0
  go_enter Tryd.func50,Tryd.ntmps50
  go_wp2_with (go_at_call 19;refine(Yaw _ _ _ _).mono ?_;rintro e w' ⟨rfl,rfl⟩)
  go_ret
  exact⟨Ya8 Z.out.symm,rfl⟩
 ·have ht:(Ya1 bits 0 32==0)=false:=by simpa using h0
  have hz:round n bits=(Ya1 n (-1099511627776) 1099511627776+2^((Ya1 bits 0 32).toNat-1)) / 2^(Ya1 bits 0 32).toNat:=by unfold round;rw[if_neg h0]
  have Z:=Lib.hid hz;have b3:1≤Ya1 bits 0 32:=by omega
  clear hz h0;obtain⟨q1,q2⟩:=Yoc ((Ya1 bits 0 32).toNat-1) (by omega)
  go_enter Tryd.func50,Tryd.ntmps50
  go_wp2_with (go_at_call 19;refine(Yaw _ _ _ _).mono ?_;rintro e w' ⟨rfl,rfl⟩)
  go_ret
  exact⟨Ya8 Z.out.symm,rfl⟩
end Go.Proofs.YtdnjefldijjgdaaDoor