/- No condition. -/
import Derived.Test.YtnamlooifcpoaaaGreatDoorScreensStillMb
import Derived.Test.YtnamlooifcpoaaaGreatDoorRows
import Derived.WalkKit
import Derived.ProofKit
import Derived.Lib.Hide
import Derived.LoopTactic
namespace Go.Proofs.YtnamlooifcpoaaaGreatDoor
open Go.RowKit
set_option maxHeartbeats 400000 in
theorem Ya1 (n lo hi:Int)(w:World):
  Calls Tryz.prog 99 #[.int .i64 n,.int .i64 lo,.int .i64 hi] w fun e w'=>e=.returned (.int .i64 (Yay n lo hi))∧w=w':=by
 go_enter Tryz.func99,Tryz.ntmps99
 go_wp2
 all_goals (go_ret;exact⟨Yca (by unfold Yay;omega),rfl⟩)
def Yla (n q:Int):Int:=if n=0 then 0 else if q%2=0 then q*(2*n+1)-1 else q*(2*n+1)
theorem Yog {n q:Int}(h0:0≤n)(h1:n≤127)(h2:1≤q)(h3:q≤31):1≤q*(2*n+1)∧q*(2*n+1)≤7905:=by
 have a:=Int.mul_le_mul h2 (show (1:Int)≤2*n+1 by omega) (by omega) (by omega);have b:=Int.mul_le_mul h3 (show 2*n+1≤255 by omega) (by omega) (by omega);omega
theorem Yvg (q:Int):Yla 0 q=0:=rfl
theorem Yxx {n q:Int}(h0:0≤n)(h1:n≤127)(h2:1≤q)(h3:q≤31):0≤Yla n q∧Yla n q≤7905:=by
 have h:=Yog h0 h1 h2 h3;unfold Yla
 split
 ·omega
 ·split <;> omega
theorem Yrs {n q:Int}(h0:1≤n)(h1:n≤127)(h2:1≤q)(h3:q≤31):2≤Yla n q:=by
 have a:=Int.mul_le_mul h2 (show (3:Int)≤2*n+1 by omega) (by omega) (by omega);unfold Yla;rw[if_neg (by omega)]
 split <;> omega
def Yu4 (l q:Int):Int:=Yay (if Yay l (-127) 127<0 then -(Yla (-(Yay l (-127) 127)) (Yay q 1 31)) else Yla (Yay l (-127) 127) (Yay q 1 31)) (-2048) 2047
def dcV (d:Int):Int:=8*Yay d 1 254
theorem Yxs (l q:Int):(0<Yu4 l q↔0<l)∧(Yu4 l q<0↔l<0):=by
 have q1:=Ybw q 1 31;have q2:=Ybv q 1 31 (by omega);have l1:=Ybw l (-127) 127;have l2:=Ybv l (-127) 127 (by omega);have s:(0<Yay l (-127) 127↔0<l)∧(Yay l (-127) 127<0↔l<0):=by unfold Yay;omega
 unfold Yu4;generalize Yay q 1 31=qq at *;generalize Yay l (-127) 127=n at *;by_cases hn:n<0
 ·have a:=Yrs (n:=-n) (q:=qq) (by omega) (by omega) q1 q2;rw[if_pos hn];generalize Yla (-n) qq=y at *;unfold Yay;omega
 ·rw[if_neg hn];by_cases h0:n=0
  ·rw[h0,Yvg];unfold Yay;omega
  ·have a:=Yrs (n:=n) (q:=qq) (by omega) (by omega) q1 q2;generalize Yla n qq=y at *;unfold Yay;omega
theorem Yxh {q:Int}(h:0≤q):q.tmod 2=q%2:=Int.tmod_eq_emod_of_nonneg h
set_option maxHeartbeats 400000 in
theorem Yof (n q:Int)(h0:0≤n)(h1:n≤127)(h2:1≤q)(h3:q≤31)(w:World):
  Calls Tryz.prog 159 #[.int .i64 n,.int .i64 q] w fun e w'=>e=.returned (.int .i64 (Yla n q))∧w=w':=by
 obtain⟨p1,p2⟩:=Yog h0 h1 h2 h3;have ht:=Yxh (q:=q) (by omega);by_cases e0:n=0
 ·subst e0;clear ht p1 p2
  go_enter Tryz.func159,Tryz.ntmps159
  go_wp2
  go_ret
  exact⟨rfl,rfl⟩
 ·have t0:(n==0)=false:=by simpa using e0
  have F:Yla n q=if q%2=0 then q*(2*n+1)-1 else q*(2*n+1):=by unfold Yla;rw[if_neg e0]
  by_cases e1:q%2=0
  ·rw[if_pos e1] at F;rw[e1] at ht;have HF:=Lib.hid F;clear F e1 e0
   go_enter Tryz.func159,Tryz.ntmps159
   go_wp2
   go_ret
   exact⟨Yca HF.out.symm,rfl⟩
  ·rw[if_neg e1] at F;have e2:q%2=1:=by omega
   rw[e2] at ht;have HF:=Lib.hid F;clear F e1 e0 e2
   go_enter Tryz.func159,Tryz.ntmps159
   go_wp2
   go_ret
   exact⟨Yca HF.out.symm,rfl⟩
set_option maxHeartbeats 400000 in
theorem Yxr (l q:Int)(w:World):Calls Tryz.prog 150 #[.int .i64 l,.int .i64 q] w fun e w'=>e=.returned (.int .i64 (Yu4 l q))∧w=w':=by
 have q1:=Ybw q 1 31;have q2:=Ybv q 1 31 (by omega);have l1:=Ybw l (-127) 127;have l2:=Ybv l (-127) 127 (by omega);have c1:=fun w=>Ya1 q 1 31 w;have c2:=fun w=>Ya1 l (-127) 127 w;have F:Yu4 l q=Yay (if Yay l (-127) 127<0 then -(Yla (-(Yay l (-127) 127)) (Yay q 1 31)) else Yla (Yay l (-127) 127) (Yay q 1 31)) (-2048) 2047:=rfl;generalize Yay q 1 31=qq at *;generalize Yay l (-127) 127=n at *
 by_cases hn:n<0
 ·rw[if_pos hn] at F;have a1:=Yxx (n:=-n) (q:=qq) (by omega) (by omega) q1 q2;have c3:=fun w=>Yof (-n) qq (by omega) (by omega) q1 q2 w;generalize Yla (-n) qq=y at *;have c4:=fun w=>Ya1 (-y) (-2048) 2047 w;rw[←F] at c4;clear F;have t0:decide (n<0)=true:=by simpa using hn
  go_enter Tryz.func150,Tryz.ntmps150
  go_wp2_with (first
   |(with_reducible refine(c1 _).mono ?_;rintro e w1 ⟨rfl,rfl⟩)
   |(with_reducible refine(c2 _).mono ?_;rintro e w1 ⟨rfl,rfl⟩)
   |(with_reducible refine(c3 _).mono ?_;rintro e w1 ⟨rfl,rfl⟩)
   |(with_reducible refine(c4 _).mono ?_;rintro e w1 ⟨rfl,rfl⟩))
  all_goals (go_ret;exact⟨rfl,rfl⟩)
 ·rw[if_neg hn] at F;have a1:=Yxx (n:=n) (q:=qq) (by omega) (by omega) q1 q2;have c3:=fun w=>Yof n qq (by omega) (by omega) q1 q2 w;generalize Yla n qq=y at *;have c4:=fun w=>Ya1 y (-2048) 2047 w;rw[←F] at c4;clear F;have t0:decide (n<0)=false:=by simpa using hn
  go_enter Tryz.func150,Tryz.ntmps150
  go_wp2_with (first
   |(with_reducible refine(c1 _).mono ?_;rintro e w1 ⟨rfl,rfl⟩)
   |(with_reducible refine(c2 _).mono ?_;rintro e w1 ⟨rfl,rfl⟩)
   |(with_reducible refine(c3 _).mono ?_;rintro e w1 ⟨rfl,rfl⟩)
   |(with_reducible refine(c4 _).mono ?_;rintro e w1 ⟨rfl,rfl⟩))
  all_goals (go_ret;exact⟨rfl,rfl⟩)
set_option maxHeartbeats 400000 in
theorem Yyo (d:Int)(w:World):Calls Tryz.prog 151 #[.int .i64 d] w fun e w'=>e=.returned (.int .i64 (dcV d))∧w=w':=by
 have q1:=Ybw d 1 254;have q2:=Ybv d 1 254 (by omega);have c1:=fun w=>Ya1 d 1 254 w;have F:=Lib.hid (show dcV d=8*Yay d 1 254 from rfl);generalize Yay d 1 254=x at *
 go_enter Tryz.func151,Tryz.ntmps151
 go_wp2_with (with_reducible refine(c1 _).mono ?_;rintro e w1 ⟨rfl,rfl⟩)
 go_ret
 exact⟨Yca F.out.symm,rfl⟩
set_option maxHeartbeats 400000 in
theorem Ym3 (n:Int)(w:World):
  Calls Tryz.prog 157 #[.int .i64 n] w fun e w'=>e=.returned (.int .i64 (Ym8 n))∧w=w':=by
 have ha:=Yz1 n;have h1:0≤n%64:=by omega
 have h2:n%64≤63:=by omega
 go_enter Tryz.func157,Tryz.ntmps157
 go_wp2
 all_goals (go_ret;exact⟨Yca (by unfold Ym8;omega),rfl⟩)
set_option maxHeartbeats 400000 in
theorem Yjf (n bits:Int)(w:World):
  Calls Tryz.prog 134 #[.int .i64 n,.int .i64 bits] w fun e w'=>e=.returned (.int .i64 (round n bits))∧w=w':=by
 have n1:=Ybw n (-1099511627776) 1099511627776;have n2:=Ybv n (-1099511627776) 1099511627776 (by omega);have b1:=Ybw bits 0 32;have b2:=Ybv bits 0 32 (by omega);by_cases h0:Yay bits 0 32=0
 ·have hz:round n bits=Yay n (-1099511627776) 1099511627776:=by unfold round;rw[if_pos h0]
  have Z:=Lib.hid hz;have ht:(Yay bits 0 32==0)=true:=by simpa using h0
  clear hz h0
  go_enter Tryz.func134,Tryz.ntmps134
  go_wp2_with (go_at_call 99;refine(Ya1 _ _ _ _).mono ?_;rintro e w' ⟨rfl,rfl⟩)
  go_ret
  exact⟨Yca Z.out.symm,rfl⟩
 ·have ht:(Yay bits 0 32==0)=false:=by simpa using h0
  have hz:round n bits=(Yay n (-1099511627776) 1099511627776+2^((Yay bits 0 32).toNat-1)) / 2^(Yay bits 0 32).toNat:=by unfold round;rw[if_neg h0]
  have Z:=Lib.hid hz;have b3:1≤Yay bits 0 32:=by omega
  clear hz h0;obtain⟨q1,q2⟩:=Ywo ((Yay bits 0 32).toNat-1) (by omega)
  go_enter Tryz.func134,Tryz.ntmps134
  go_wp2_with (go_at_call 99;refine(Ya1 _ _ _ _).mono ?_;rintro e w' ⟨rfl,rfl⟩)
  go_ret
  exact⟨Yca Z.out.symm,rfl⟩
end Go.Proofs.YtnamlooifcpoaaaGreatDoor