/- No condition. -/
import Derived.Test.YtkgabfmjfhljdaaDoorResidueLevelsMb
import Derived.Test.YtkgabfmjfhljdaaDoorRows
import Derived.WalkKit
import Derived.ProofKit
import Derived.Lib.Hide
import Derived.LoopTactic
namespace Go.Proofs.YtkgabfmjfhljdaaDoor
open Go.RowKit
set_option maxHeartbeats 400000 in
theorem Ybr (n lo hi:Int)(w:World):
  Calls Tryd.prog 62 #[.int .i64 n,.int .i64 lo,.int .i64 hi] w fun e w'=>e=.returned (.int .i64 (Ybg n lo hi))∧w=w':=by
 go_enter Tryd.func62,Tryd.ntmps62
 go_wp2
 all_goals (go_ret;exact⟨Ybk (by unfold Ybg;omega),rfl⟩)
set_option maxHeartbeats 400000 in
theorem Ycy (n lo hi:Int)(w:World):
  Calls Tryd.prog 38 #[.int .i64 n,.int .i64 lo,.int .i64 hi] w fun e w'=>e=.returned (.int .i64 (Ybg n lo hi))∧w=w':=by
 by_cases h1:hi<lo
 ·go_enter Tryd.func38,Tryd.ntmps38
  go_wp2
  all_goals (go_ret;exact⟨Ybk (by unfold Ybg;omega),rfl⟩)
 ·by_cases h2:n<lo
  ·go_enter Tryd.func38,Tryd.ntmps38
   go_wp2
   all_goals (go_ret;exact⟨Ybk (by unfold Ybg;omega),rfl⟩)
  ·go_enter Tryd.func38,Tryd.ntmps38
   go_wp2
   all_goals (go_ret;exact⟨Ybk (by unfold Ybg;omega),rfl⟩)
def Yfz (n q:Int):Int:=if n=0 then 0 else if q%2=0 then q*(2*n+1)-1 else q*(2*n+1)
theorem Yf0 {n q:Int}(h0:0≤n)(h1:n≤127)(h2:1≤q)(h3:q≤31):1≤q*(2*n+1)∧q*(2*n+1)≤7905:=by
 have a:=Int.mul_le_mul h2 (show (1:Int)≤2*n+1 by omega) (by omega) (by omega);have b:=Int.mul_le_mul h3 (show 2*n+1≤255 by omega) (by omega) (by omega);omega
theorem Yio {n q:Int}(h0:0≤n)(h1:n≤127)(h2:1≤q)(h3:q≤31):0≤Yfz n q∧Yfz n q≤7905:=by
 have h:=Yf0 h0 h1 h2 h3;unfold Yfz
 split
 ·omega
 ·split <;> omega
def Yim (l q:Int):Int:=Ybg (if Ybg l (-127) 127<0 then -(Yfz (-(Ybg l (-127) 127)) (Ybg q 1 31)) else Yfz (Ybg l (-127) 127) (Ybg q 1 31)) (-2048) 2047
def dcV (d:Int):Int:=8*Ybg d 1 254
theorem Yi9 {q:Int}(h:0≤q):q.tmod 2=q%2:=Int.tmod_eq_emod_of_nonneg h
set_option maxHeartbeats 400000 in
theorem Yin (n q:Int)(h0:0≤n)(h1:n≤127)(h2:1≤q)(h3:q≤31)(w:World):
  Calls Tryd.prog 63 #[.int .i64 n,.int .i64 q] w fun e w'=>e=.returned (.int .i64 (Yfz n q))∧w=w':=by
 obtain⟨p1,p2⟩:=Yf0 h0 h1 h2 h3;have ht:=Yi9 (q:=q) (by omega);by_cases e0:n=0
 ·subst e0;clear ht p1 p2
  go_enter Tryd.func63,Tryd.ntmps63
  go_wp2
  go_ret
  exact⟨rfl,rfl⟩
 ·have t0:(n==0)=false:=by simpa using e0
  have F:Yfz n q=if q%2=0 then q*(2*n+1)-1 else q*(2*n+1):=by unfold Yfz;rw[if_neg e0]
  by_cases e1:q%2=0
  ·rw[if_pos e1] at F;rw[e1] at ht;have HF:=Lib.hid F;clear F e1 e0
   go_enter Tryd.func63,Tryd.ntmps63
   go_wp2
   go_ret
   exact⟨Ybk HF.out.symm,rfl⟩
  ·rw[if_neg e1] at F;have e2:q%2=1:=by omega
   rw[e2] at ht;have HF:=Lib.hid F;clear F e1 e0 e2
   go_enter Tryd.func63,Tryd.ntmps63
   go_wp2
   go_ret
   exact⟨Ybk HF.out.symm,rfl⟩
set_option maxHeartbeats 400000 in
theorem Yip (n q:Int)(h0:0≤n)(h1:n≤127)(h2:1≤q)(h3:q≤31)(w:World):
  Calls Tryd.prog 49 #[.int .i64 n,.int .i64 q] w fun e w'=>e=.returned (.int .i64 (Yfz n q))∧w=w':=by
 obtain⟨p1,p2⟩:=Yf0 h0 h1 h2 h3;have ht:=Yi9 (q:=q) (by omega);by_cases e0:n=0
 ·subst e0;clear ht p1 p2
  go_enter Tryd.func49,Tryd.ntmps49
  go_wp2
  go_ret
  exact⟨rfl,rfl⟩
 ·have t0:(n==0)=false:=by simpa using e0
  have F:Yfz n q=if q%2=0 then q*(2*n+1)-1 else q*(2*n+1):=by unfold Yfz;rw[if_neg e0]
  by_cases e1:q%2=0
  ·rw[if_pos e1] at F;rw[e1] at ht;have HF:=Lib.hid F;clear F e1 e0
   go_enter Tryd.func49,Tryd.ntmps49
   go_wp2
   go_ret
   exact⟨Ybk HF.out.symm,rfl⟩
  ·rw[if_neg e1] at F;have e2:q%2=1:=by omega
   rw[e2] at ht;have HF:=Lib.hid F;clear F e1 e0 e2
   go_enter Tryd.func49,Tryd.ntmps49
   go_wp2
   go_ret
   exact⟨Ybk HF.out.symm,rfl⟩
set_option maxHeartbeats 400000 in
theorem Yn1 (l q:Int)(w:World):Calls Tryd.prog 47 #[.int .i64 l,.int .i64 q] w fun e w'=>e=.returned (.int .i64 (Yim l q))∧w=w':=by
 have q1:=Yci q 1 31;have q2:=Ych q 1 31 (by omega);have l1:=Yci l (-127) 127;have l2:=Ych l (-127) 127 (by omega);have c1:=fun w=>Ybr q 1 31 w;have c2:=fun w=>Ybr l (-127) 127 w;have F:Yim l q=Ybg (if Ybg l (-127) 127<0 then -(Yfz (-(Ybg l (-127) 127)) (Ybg q 1 31)) else Yfz (Ybg l (-127) 127) (Ybg q 1 31)) (-2048) 2047:=rfl;generalize Ybg q 1 31=qq at *;generalize Ybg l (-127) 127=n at *
 by_cases hn:n<0
 ·rw[if_pos hn] at F;have a1:=Yio (n:=-n) (q:=qq) (by omega) (by omega) q1 q2;have c3:=fun w=>Yin (-n) qq (by omega) (by omega) q1 q2 w;generalize Yfz (-n) qq=y at *;have c4:=fun w=>Ybr (-y) (-2048) 2047 w;rw[←F] at c4;clear F;have t0:decide (n<0)=true:=by simpa using hn
  go_enter Tryd.func47,Tryd.ntmps47
  go_wp2_with (first
   |(with_reducible refine(c1 _).mono ?_;rintro e w1 ⟨rfl,rfl⟩)
   |(with_reducible refine(c2 _).mono ?_;rintro e w1 ⟨rfl,rfl⟩)
   |(with_reducible refine(c3 _).mono ?_;rintro e w1 ⟨rfl,rfl⟩)
   |(with_reducible refine(c4 _).mono ?_;rintro e w1 ⟨rfl,rfl⟩))
  all_goals (go_ret;exact⟨rfl,rfl⟩)
 ·rw[if_neg hn] at F;have a1:=Yio (n:=n) (q:=qq) (by omega) (by omega) q1 q2;have c3:=fun w=>Yin n qq (by omega) (by omega) q1 q2 w;generalize Yfz n qq=y at *;have c4:=fun w=>Ybr y (-2048) 2047 w;rw[←F] at c4;clear F;have t0:decide (n<0)=false:=by simpa using hn
  go_enter Tryd.func47,Tryd.ntmps47
  go_wp2_with (first
   |(with_reducible refine(c1 _).mono ?_;rintro e w1 ⟨rfl,rfl⟩)
   |(with_reducible refine(c2 _).mono ?_;rintro e w1 ⟨rfl,rfl⟩)
   |(with_reducible refine(c3 _).mono ?_;rintro e w1 ⟨rfl,rfl⟩)
   |(with_reducible refine(c4 _).mono ?_;rintro e w1 ⟨rfl,rfl⟩))
  all_goals (go_ret;exact⟨rfl,rfl⟩)
set_option maxHeartbeats 400000 in
theorem Ygm (l q:Int)(w:World):Calls Tryd.prog 34 #[.int .i64 l,.int .i64 q] w fun e w'=>e=.returned (.int .i64 (Yim l q))∧w=w':=by
 have q1:=Yci q 1 31;have q2:=Ych q 1 31 (by omega);have l1:=Yci l (-127) 127;have l2:=Ych l (-127) 127 (by omega);have c1:=fun w=>Ycy q 1 31 w;have c2:=fun w=>Ycy l (-127) 127 w;have F:Yim l q=Ybg (if Ybg l (-127) 127<0 then -(Yfz (-(Ybg l (-127) 127)) (Ybg q 1 31)) else Yfz (Ybg l (-127) 127) (Ybg q 1 31)) (-2048) 2047:=rfl;generalize Ybg q 1 31=qq at *;generalize Ybg l (-127) 127=n at *
 by_cases hn:n<0
 ·rw[if_pos hn] at F;have a1:=Yio (n:=-n) (q:=qq) (by omega) (by omega) q1 q2;have c3:=fun w=>Yip (-n) qq (by omega) (by omega) q1 q2 w;generalize Yfz (-n) qq=y at *;have c4:=fun w=>Ycy (-y) (-2048) 2047 w;rw[←F] at c4;clear F;have t0:decide (n<0)=true:=by simpa using hn
  go_enter Tryd.func34,Tryd.ntmps34
  go_wp2_with (first
   |(with_reducible refine(c1 _).mono ?_;rintro e w1 ⟨rfl,rfl⟩)
   |(with_reducible refine(c2 _).mono ?_;rintro e w1 ⟨rfl,rfl⟩)
   |(with_reducible refine(c3 _).mono ?_;rintro e w1 ⟨rfl,rfl⟩)
   |(with_reducible refine(c4 _).mono ?_;rintro e w1 ⟨rfl,rfl⟩))
  all_goals (go_ret;exact⟨rfl,rfl⟩)
 ·rw[if_neg hn] at F;have a1:=Yio (n:=n) (q:=qq) (by omega) (by omega) q1 q2;have c3:=fun w=>Yip n qq (by omega) (by omega) q1 q2 w;generalize Yfz n qq=y at *;have c4:=fun w=>Ycy y (-2048) 2047 w;rw[←F] at c4;clear F;have t0:decide (n<0)=false:=by simpa using hn
  go_enter Tryd.func34,Tryd.ntmps34
  go_wp2_with (first
   |(with_reducible refine(c1 _).mono ?_;rintro e w1 ⟨rfl,rfl⟩)
   |(with_reducible refine(c2 _).mono ?_;rintro e w1 ⟨rfl,rfl⟩)
   |(with_reducible refine(c3 _).mono ?_;rintro e w1 ⟨rfl,rfl⟩)
   |(with_reducible refine(c4 _).mono ?_;rintro e w1 ⟨rfl,rfl⟩))
  all_goals (go_ret;exact⟨rfl,rfl⟩)
set_option maxHeartbeats 400000 in
theorem Yok (d:Int)(w:World):Calls Tryd.prog 48 #[.int .i64 d] w fun e w'=>e=.returned (.int .i64 (dcV d))∧w=w':=by
 have q1:=Yci d 1 254;have q2:=Ych d 1 254 (by omega);have c1:=fun w=>Ybr d 1 254 w;have F:=Lib.hid (show dcV d=8*Ybg d 1 254 from rfl);generalize Ybg d 1 254=x at *
 go_enter Tryd.func48,Tryd.ntmps48
 go_wp2_with (with_reducible refine(c1 _).mono ?_;rintro e w1 ⟨rfl,rfl⟩)
 go_ret
 exact⟨Ybk F.out.symm,rfl⟩
set_option maxHeartbeats 400000 in
theorem Yol (d:Int)(w:World):Calls Tryd.prog 35 #[.int .i64 d] w fun e w'=>e=.returned (.int .i64 (dcV d))∧w=w':=by
 have q1:=Yci d 1 254;have q2:=Ych d 1 254 (by omega);have c1:=fun w=>Ycy d 1 254 w;have F:=Lib.hid (show dcV d=8*Ybg d 1 254 from rfl);generalize Ybg d 1 254=x at *
 go_enter Tryd.func35,Tryd.ntmps35
 go_wp2_with (with_reducible refine(c1 _).mono ?_;rintro e w1 ⟨rfl,rfl⟩)
 go_ret
 exact⟨Ybk F.out.symm,rfl⟩
set_option maxHeartbeats 400000 in
theorem Yhs (n:Int)(w:World):
  Calls Tryd.prog 65 #[.int .i64 n] w fun e w'=>e=.returned (.int .i64 (Yfa n))∧w=w':=by
 have ha:=Ypb n;have h1:0≤n%64:=by omega
 have h2:n%64≤63:=by omega
 go_enter Tryd.func65,Tryd.ntmps65
 go_wp2
 all_goals (go_ret;exact⟨Ybk (by unfold Yfa;omega),rfl⟩)
set_option maxHeartbeats 400000 in
theorem Yj0 (n bits:Int)(w:World):
  Calls Tryd.prog 64 #[.int .i64 n,.int .i64 bits] w fun e w'=>e=.returned (.int .i64 (round n bits))∧w=w':=by
 have n1:=Yci n (-1099511627776) 1099511627776;have n2:=Ych n (-1099511627776) 1099511627776 (by omega);have b1:=Yci bits 0 32;have b2:=Ych bits 0 32 (by omega);by_cases h0:Ybg bits 0 32=0
 ·have hz:round n bits=Ybg n (-1099511627776) 1099511627776:=by unfold round;rw[if_pos h0]
  have Z:=Lib.hid hz;have ht:(Ybg bits 0 32==0)=true:=by simpa using h0
  clear hz h0
  go_enter Tryd.func64,Tryd.ntmps64
  go_wp2_with (go_at_call 62;refine(Ybr _ _ _ _).mono ?_;rintro e w' ⟨rfl,rfl⟩)
  go_ret
  exact⟨Ybk Z.out.symm,rfl⟩
 ·have ht:(Ybg bits 0 32==0)=false:=by simpa using h0
  have hz:round n bits=(Ybg n (-1099511627776) 1099511627776+2^((Ybg bits 0 32).toNat-1)) / 2^(Ybg bits 0 32).toNat:=by unfold round;rw[if_neg h0]
  have Z:=Lib.hid hz;have b3:1≤Ybg bits 0 32:=by omega
  clear hz h0;obtain⟨q1,q2⟩:=Yni ((Ybg bits 0 32).toNat-1) (by omega)
  go_enter Tryd.func64,Tryd.ntmps64
  go_wp2_with (go_at_call 62;refine(Ybr _ _ _ _).mono ?_;rintro e w' ⟨rfl,rfl⟩)
  go_ret
  exact⟨Ybk Z.out.symm,rfl⟩
end Go.Proofs.YtkgabfmjfhljdaaDoor