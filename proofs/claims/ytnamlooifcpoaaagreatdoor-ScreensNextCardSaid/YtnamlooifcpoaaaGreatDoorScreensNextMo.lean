/- No condition. -/
import Derived.Test.YtnamlooifcpoaaaGreatDoorScreensNextMb
import Derived.Test.YtnamlooifcpoaaaGreatDoorRows
import Derived.WalkKit
import Derived.ProofKit
import Derived.Lib.Hide
import Derived.LoopTactic
namespace Go.Proofs.YtnamlooifcpoaaaGreatDoor
open Go.RowKit
set_option maxHeartbeats 400000 in
theorem Ybs (n lo hi:Int)(w:World):
  Calls Tryz.prog 99 #[.int .i64 n,.int .i64 lo,.int .i64 hi] w fun e w'=>e=.returned (.int .i64 (Yax n lo hi))∧w=w':=by
 go_enter Tryz.func99,Tryz.ntmps99
 go_wp2
 all_goals (go_ret;exact⟨Ya6 (by unfold Yax;omega),rfl⟩)
set_option maxHeartbeats 400000 in
theorem Ybm (n lo hi:Int)(w:World):
  Calls Tryz.prog 40 #[.int .i64 n,.int .i64 lo,.int .i64 hi] w fun e w'=>e=.returned (.int .i64 (Yax n lo hi))∧w=w':=by
 by_cases h1:hi<lo
 ·go_enter Tryz.func40,Tryz.ntmps40
  go_wp2
  all_goals (go_ret;exact⟨Ya6 (by unfold Yax;omega),rfl⟩)
 ·by_cases h2:n<lo
  ·go_enter Tryz.func40,Tryz.ntmps40
   go_wp2
   all_goals (go_ret;exact⟨Ya6 (by unfold Yax;omega),rfl⟩)
  ·go_enter Tryz.func40,Tryz.ntmps40
   go_wp2
   all_goals (go_ret;exact⟨Ya6 (by unfold Yax;omega),rfl⟩)
def Yl6 (n q:Int):Int:=if n=0 then 0 else if q%2=0 then q*(2*n+1)-1 else q*(2*n+1)
theorem Yl7 {n q:Int}(h0:0≤n)(h1:n≤127)(h2:1≤q)(h3:q≤31):1≤q*(2*n+1)∧q*(2*n+1)≤7905:=by
 have a:=Int.mul_le_mul h2 (show (1:Int)≤2*n+1 by omega) (by omega) (by omega);have b:=Int.mul_le_mul h3 (show 2*n+1≤255 by omega) (by omega) (by omega);omega
theorem Yrf {n q:Int}(h0:0≤n)(h1:n≤127)(h2:1≤q)(h3:q≤31):0≤Yl6 n q∧Yl6 n q≤7905:=by
 have h:=Yl7 h0 h1 h2 h3;unfold Yl6
 split
 ·omega
 ·split <;> omega
def Yq5 (l q:Int):Int:=Yax (if Yax l (-127) 127<0 then -(Yl6 (-(Yax l (-127) 127)) (Yax q 1 31)) else Yl6 (Yax l (-127) 127) (Yax q 1 31)) (-2048) 2047
def dcV (d:Int):Int:=8*Yax d 1 254
theorem Ysn {q:Int}(h:0≤q):q.tmod 2=q%2:=Int.tmod_eq_emod_of_nonneg h
set_option maxHeartbeats 400000 in
theorem Yre (n q:Int)(h0:0≤n)(h1:n≤127)(h2:1≤q)(h3:q≤31)(w:World):
  Calls Tryz.prog 159 #[.int .i64 n,.int .i64 q] w fun e w'=>e=.returned (.int .i64 (Yl6 n q))∧w=w':=by
 obtain⟨p1,p2⟩:=Yl7 h0 h1 h2 h3;have ht:=Ysn (q:=q) (by omega);by_cases e0:n=0
 ·subst e0;clear ht p1 p2
  go_enter Tryz.func159,Tryz.ntmps159
  go_wp2
  go_ret
  exact⟨rfl,rfl⟩
 ·have t0:(n==0)=false:=by simpa using e0
  have F:Yl6 n q=if q%2=0 then q*(2*n+1)-1 else q*(2*n+1):=by unfold Yl6;rw[if_neg e0]
  by_cases e1:q%2=0
  ·rw[if_pos e1] at F;rw[e1] at ht;have HF:=Lib.hid F;clear F e1 e0
   go_enter Tryz.func159,Tryz.ntmps159
   go_wp2
   go_ret
   exact⟨Ya6 HF.out.symm,rfl⟩
  ·rw[if_neg e1] at F;have e2:q%2=1:=by omega
   rw[e2] at ht;have HF:=Lib.hid F;clear F e1 e0 e2
   go_enter Tryz.func159,Tryz.ntmps159
   go_wp2
   go_ret
   exact⟨Ya6 HF.out.symm,rfl⟩
set_option maxHeartbeats 400000 in
theorem Yrg (n q:Int)(h0:0≤n)(h1:n≤127)(h2:1≤q)(h3:q≤31)(w:World):
  Calls Tryz.prog 137 #[.int .i64 n,.int .i64 q] w fun e w'=>e=.returned (.int .i64 (Yl6 n q))∧w=w':=by
 obtain⟨p1,p2⟩:=Yl7 h0 h1 h2 h3;have ht:=Ysn (q:=q) (by omega);by_cases e0:n=0
 ·subst e0;clear ht p1 p2
  go_enter Tryz.func137,Tryz.ntmps137
  go_wp2
  go_ret
  exact⟨rfl,rfl⟩
 ·have t0:(n==0)=false:=by simpa using e0
  have F:Yl6 n q=if q%2=0 then q*(2*n+1)-1 else q*(2*n+1):=by unfold Yl6;rw[if_neg e0]
  by_cases e1:q%2=0
  ·rw[if_pos e1] at F;rw[e1] at ht;have HF:=Lib.hid F;clear F e1 e0
   go_enter Tryz.func137,Tryz.ntmps137
   go_wp2
   go_ret
   exact⟨Ya6 HF.out.symm,rfl⟩
  ·rw[if_neg e1] at F;have e2:q%2=1:=by omega
   rw[e2] at ht;have HF:=Lib.hid F;clear F e1 e0 e2
   go_enter Tryz.func137,Tryz.ntmps137
   go_wp2
   go_ret
   exact⟨Ya6 HF.out.symm,rfl⟩
set_option maxHeartbeats 400000 in
theorem Y09 (l q:Int)(w:World):Calls Tryz.prog 150 #[.int .i64 l,.int .i64 q] w fun e w'=>e=.returned (.int .i64 (Yq5 l q))∧w=w':=by
 have q1:=Ybl q 1 31;have q2:=Ybk q 1 31 (by omega);have l1:=Ybl l (-127) 127;have l2:=Ybk l (-127) 127 (by omega);have c1:=fun w=>Ybs q 1 31 w;have c2:=fun w=>Ybs l (-127) 127 w;have F:Yq5 l q=Yax (if Yax l (-127) 127<0 then -(Yl6 (-(Yax l (-127) 127)) (Yax q 1 31)) else Yl6 (Yax l (-127) 127) (Yax q 1 31)) (-2048) 2047:=rfl;generalize Yax q 1 31=qq at *;generalize Yax l (-127) 127=n at *
 by_cases hn:n<0
 ·rw[if_pos hn] at F;have a1:=Yrf (n:=-n) (q:=qq) (by omega) (by omega) q1 q2;have c3:=fun w=>Yre (-n) qq (by omega) (by omega) q1 q2 w;generalize Yl6 (-n) qq=y at *;have c4:=fun w=>Ybs (-y) (-2048) 2047 w;rw[←F] at c4;clear F;have t0:decide (n<0)=true:=by simpa using hn
  go_enter Tryz.func150,Tryz.ntmps150
  go_wp2_with (first
   |(with_reducible refine(c1 _).mono ?_;rintro e w1 ⟨rfl,rfl⟩)
   |(with_reducible refine(c2 _).mono ?_;rintro e w1 ⟨rfl,rfl⟩)
   |(with_reducible refine(c3 _).mono ?_;rintro e w1 ⟨rfl,rfl⟩)
   |(with_reducible refine(c4 _).mono ?_;rintro e w1 ⟨rfl,rfl⟩))
  all_goals (go_ret;exact⟨rfl,rfl⟩)
 ·rw[if_neg hn] at F;have a1:=Yrf (n:=n) (q:=qq) (by omega) (by omega) q1 q2;have c3:=fun w=>Yre n qq (by omega) (by omega) q1 q2 w;generalize Yl6 n qq=y at *;have c4:=fun w=>Ybs y (-2048) 2047 w;rw[←F] at c4;clear F;have t0:decide (n<0)=false:=by simpa using hn
  go_enter Tryz.func150,Tryz.ntmps150
  go_wp2_with (first
   |(with_reducible refine(c1 _).mono ?_;rintro e w1 ⟨rfl,rfl⟩)
   |(with_reducible refine(c2 _).mono ?_;rintro e w1 ⟨rfl,rfl⟩)
   |(with_reducible refine(c3 _).mono ?_;rintro e w1 ⟨rfl,rfl⟩)
   |(with_reducible refine(c4 _).mono ?_;rintro e w1 ⟨rfl,rfl⟩))
  all_goals (go_ret;exact⟨rfl,rfl⟩)
set_option maxHeartbeats 400000 in
theorem Ynd (l q:Int)(w:World):Calls Tryz.prog 111 #[.int .i64 l,.int .i64 q] w fun e w'=>e=.returned (.int .i64 (Yq5 l q))∧w=w':=by
 have q1:=Ybl q 1 31;have q2:=Ybk q 1 31 (by omega);have l1:=Ybl l (-127) 127;have l2:=Ybk l (-127) 127 (by omega);have c1:=fun w=>Ybm q 1 31 w;have c2:=fun w=>Ybm l (-127) 127 w;have F:Yq5 l q=Yax (if Yax l (-127) 127<0 then -(Yl6 (-(Yax l (-127) 127)) (Yax q 1 31)) else Yl6 (Yax l (-127) 127) (Yax q 1 31)) (-2048) 2047:=rfl;generalize Yax q 1 31=qq at *;generalize Yax l (-127) 127=n at *
 by_cases hn:n<0
 ·rw[if_pos hn] at F;have a1:=Yrf (n:=-n) (q:=qq) (by omega) (by omega) q1 q2;have c3:=fun w=>Yrg (-n) qq (by omega) (by omega) q1 q2 w;generalize Yl6 (-n) qq=y at *;have c4:=fun w=>Ybm (-y) (-2048) 2047 w;rw[←F] at c4;clear F;have t0:decide (n<0)=true:=by simpa using hn
  go_enter Tryz.func111,Tryz.ntmps111
  go_wp2_with (first
   |(with_reducible refine(c1 _).mono ?_;rintro e w1 ⟨rfl,rfl⟩)
   |(with_reducible refine(c2 _).mono ?_;rintro e w1 ⟨rfl,rfl⟩)
   |(with_reducible refine(c3 _).mono ?_;rintro e w1 ⟨rfl,rfl⟩)
   |(with_reducible refine(c4 _).mono ?_;rintro e w1 ⟨rfl,rfl⟩))
  all_goals (go_ret;exact⟨rfl,rfl⟩)
 ·rw[if_neg hn] at F;have a1:=Yrf (n:=n) (q:=qq) (by omega) (by omega) q1 q2;have c3:=fun w=>Yrg n qq (by omega) (by omega) q1 q2 w;generalize Yl6 n qq=y at *;have c4:=fun w=>Ybm y (-2048) 2047 w;rw[←F] at c4;clear F;have t0:decide (n<0)=false:=by simpa using hn
  go_enter Tryz.func111,Tryz.ntmps111
  go_wp2_with (first
   |(with_reducible refine(c1 _).mono ?_;rintro e w1 ⟨rfl,rfl⟩)
   |(with_reducible refine(c2 _).mono ?_;rintro e w1 ⟨rfl,rfl⟩)
   |(with_reducible refine(c3 _).mono ?_;rintro e w1 ⟨rfl,rfl⟩)
   |(with_reducible refine(c4 _).mono ?_;rintro e w1 ⟨rfl,rfl⟩))
  all_goals (go_ret;exact⟨rfl,rfl⟩)
set_option maxHeartbeats 400000 in
theorem Y12 (d:Int)(w:World):Calls Tryz.prog 151 #[.int .i64 d] w fun e w'=>e=.returned (.int .i64 (dcV d))∧w=w':=by
 have q1:=Ybl d 1 254;have q2:=Ybk d 1 254 (by omega);have c1:=fun w=>Ybs d 1 254 w;have F:=Lib.hid (show dcV d=8*Yax d 1 254 from rfl);generalize Yax d 1 254=x at *
 go_enter Tryz.func151,Tryz.ntmps151
 go_wp2_with (with_reducible refine(c1 _).mono ?_;rintro e w1 ⟨rfl,rfl⟩)
 go_ret
 exact⟨Ya6 F.out.symm,rfl⟩
set_option maxHeartbeats 400000 in
theorem Y13 (d:Int)(w:World):Calls Tryz.prog 112 #[.int .i64 d] w fun e w'=>e=.returned (.int .i64 (dcV d))∧w=w':=by
 have q1:=Ybl d 1 254;have q2:=Ybk d 1 254 (by omega);have c1:=fun w=>Ybm d 1 254 w;have F:=Lib.hid (show dcV d=8*Yax d 1 254 from rfl);generalize Yax d 1 254=x at *
 go_enter Tryz.func112,Tryz.ntmps112
 go_wp2_with (with_reducible refine(c1 _).mono ?_;rintro e w1 ⟨rfl,rfl⟩)
 go_ret
 exact⟨Ya6 F.out.symm,rfl⟩
set_option maxHeartbeats 400000 in
theorem Yps (n:Int)(w:World):
  Calls Tryz.prog 157 #[.int .i64 n] w fun e w'=>e=.returned (.int .i64 (Ykk n))∧w=w':=by
 have ha:=Y29 n;have h1:0≤n%64:=by omega
 have h2:n%64≤63:=by omega
 go_enter Tryz.func157,Tryz.ntmps157
 go_wp2
 all_goals (go_ret;exact⟨Ya6 (by unfold Ykk;omega),rfl⟩)
set_option maxHeartbeats 400000 in
theorem Yll (n bits:Int)(w:World):
  Calls Tryz.prog 134 #[.int .i64 n,.int .i64 bits] w fun e w'=>e=.returned (.int .i64 (round n bits))∧w=w':=by
 have n1:=Ybl n (-1099511627776) 1099511627776;have n2:=Ybk n (-1099511627776) 1099511627776 (by omega);have b1:=Ybl bits 0 32;have b2:=Ybk bits 0 32 (by omega);by_cases h0:Yax bits 0 32=0
 ·have hz:round n bits=Yax n (-1099511627776) 1099511627776:=by unfold round;rw[if_pos h0]
  have Z:=Lib.hid hz;have ht:(Yax bits 0 32==0)=true:=by simpa using h0
  clear hz h0
  go_enter Tryz.func134,Tryz.ntmps134
  go_wp2_with (go_at_call 99;refine(Ybs _ _ _ _).mono ?_;rintro e w' ⟨rfl,rfl⟩)
  go_ret
  exact⟨Ya6 Z.out.symm,rfl⟩
 ·have ht:(Yax bits 0 32==0)=false:=by simpa using h0
  have hz:round n bits=(Yax n (-1099511627776) 1099511627776+2^((Yax bits 0 32).toNat-1)) / 2^(Yax bits 0 32).toNat:=by unfold round;rw[if_neg h0]
  have Z:=Lib.hid hz;have b3:1≤Yax bits 0 32:=by omega
  clear hz h0;obtain⟨q1,q2⟩:=Yr8 ((Yax bits 0 32).toNat-1) (by omega)
  go_enter Tryz.func134,Tryz.ntmps134
  go_wp2_with (go_at_call 99;refine(Ybs _ _ _ _).mono ?_;rintro e w' ⟨rfl,rfl⟩)
  go_ret
  exact⟨Ya6 Z.out.symm,rfl⟩
theorem Yru (S P:Int)(h:0≤S):S.tdiv P=S / P:=Int.tdiv_eq_ediv_of_nonneg h
theorem Ytf (S P:Int)(h:S.tdiv P*P=S):S.tdiv P=S / P:=by
 have hd:P ∣ S:=⟨S.tdiv P,by rw[Int.mul_comm];exact h.symm⟩;rw[Int.tdiv_eq_ediv];simp[hd]
theorem Yte (S P:Int)(hP:1≤P)(h0:S<0)(h:¬ S.tdiv P*P=S):S.tdiv P-1=S / P:=by
 have hd:¬ P ∣ S:=fun hd=>h (Int.tdiv_mul_cancel hd);rw[Int.tdiv_eq_ediv];have hs:P.sign=1:=Int.sign_eq_one_of_pos (by omega);simp[hd,hs,show ¬ 0≤S by omega]
theorem Yq1 (S P:Int)(hP:1≤P)(b:Int)(h1:-b≤S)(h2:S≤b):-b≤S.tdiv P∧S.tdiv P≤b∧-b≤S.tdiv P*P∧S.tdiv P*P≤b:=by
 by_cases h:0≤S
 ·rw[Yru S P h];have e1:=Int.ediv_nonneg h (by omega:0≤P);have e2:=Int.ediv_le_self P h;have e3:=Int.ediv_mul_le S (by omega:P≠0);have e4:=Int.mul_nonneg e1 (by omega:0≤P);omega
 ·have e0:S.tdiv P = -((-S) / P):=by rw[←Int.tdiv_eq_ediv_of_nonneg (by omega:0≤-S),Int.neg_tdiv];omega
  rw[e0];have e1:=Int.ediv_nonneg (by omega:0≤-S) (by omega:0≤P);have e2:=Int.ediv_le_self P (by omega:0≤-S);have e3:=Int.ediv_mul_le (-S) (by omega:P≠0);have e4:=Int.mul_nonneg e1 (by omega:0≤P);rw[Int.neg_mul];omega
set_option maxHeartbeats 1000000 in
theorem Yt9 (n bits:Int)(w:World):
  Calls Tryz.prog 89 #[.int .i64 n,.int .i64 bits] w fun e w'=>e=.returned (.int .i64 (round n bits))∧w=w':=by
 have n1:=Ybl n (-1099511627776) 1099511627776;have n2:=Ybk n (-1099511627776) 1099511627776 (by omega);have b1:=Ybl bits 0 32;have b2:=Ybk bits 0 32 (by omega);by_cases h0:Yax bits 0 32=0
 ·have hz:round n bits=Yax n (-1099511627776) 1099511627776:=by unfold round;rw[if_pos h0]
  have Z:=Lib.hid hz;have ht:(Yax bits 0 32==0)=true:=by simpa using h0
  clear hz h0
  go_enter Tryz.func89,Tryz.ntmps89
  go_wp2_with (go_at_call 40;refine(Ybm _ _ _ _).mono ?_;rintro e w' ⟨rfl,rfl⟩)
  go_ret
  exact⟨Ya6 Z.out.symm,rfl⟩
 ·have hz:round n bits=(Yax n (-1099511627776) 1099511627776+2^((Yax bits 0 32).toNat-1)) / 2^(Yax bits 0 32).toNat:=by unfold round;rw[if_neg h0]
  obtain⟨B,hB⟩:∃B:Nat,Yax bits 0 32=(B:Int):=⟨(Yax bits 0 32).toNat,by omega⟩;obtain⟨m,hm⟩:∃m:Int,Yax n (-1099511627776) 1099511627776=m:=⟨_,rfl⟩;rw[hB] at hz h0 b1 b2;rw[hm] at hz n1 n2;rw[Int.toNat_natCast] at hz;have Z:=Lib.hid hz;have ht:((B:Int)==0)=false:=by simpa using h0
  have b3:1≤B:=by omega
  have b4:B≤32:=by omega
  clear hz h0 b1 b2
  go_enter Tryz.func89,Tryz.ntmps89
  go_wp2_with (go_at_call 40;refine(Ybm _ _ _ _).mono ?_;rintro e w' ⟨rfl,rfl⟩)
  go_loop [5,6] (fun b i=>∃k:Nat,k≤B∧i=.int .i64 k∧b=.int .i64 (2^k)) (fun _ i=>B-(intOf i).toNat)
  case atStart=>exact⟨0,Nat.zero_le _,rfl,rfl⟩
  case round=>
   obtain⟨k,hk,rfl,rfl⟩:=hrel;obtain⟨q1,q2⟩:=Yr8 k (by omega);by_cases hlt:k<B
   ·go_wp2
    go_round
    case rel=>exact⟨k+1,by omega,by go_num,by rw[Int.pow_succ];go_num⟩
    case measure=>simp[intOf];omega
   ·obtain rfl:k=B:=by omega
    obtain⟨P,hP⟩:∃P:Int,(2:Int)^k=P:=⟨_,rfl⟩;have e2:(2:Int)^k / 2=2^(k-1):=by
     obtain⟨j,rfl⟩:∃j,k=j+1:=⟨k-1,by omega⟩;rw[Int.pow_succ];simp
    have hz2:round n bits=(m+P / 2) / P:=by rw[Z.out,←e2,hP]
    rw[hP] at q1 q2;have Z2:=Lib.hid hz2;clear hz2 e2 Z;obtain⟨t1,t2,t3,t4⟩:=Yq1 (m+P / 2) P q1 2199023255552 (by omega) (by omega);by_cases hs:0≤m+P / 2
    ·have U:=Yru (m+P / 2) P hs;have U2:=Lib.hid U;clear U
     go_wp2
     go_ret
     exact⟨Ya6 (by rw[Z2.out];exact U2.out),rfl⟩
    ·by_cases he:(m+P / 2).tdiv P*P=m+P / 2
     ·have U2:=Lib.hid (Ytf (m+P / 2) P he);have ht2:((m+P / 2).tdiv P*P != m+P / 2)=false:=by simpa using he
      have hs':m+P / 2<0:=by omega
      clear he hs
      go_wp2
      go_ret
      exact⟨Ya6 (by rw[Z2.out];exact U2.out),rfl⟩
     ·have U2:=Lib.hid (Yte (m+P / 2) P q1 (by omega) he);have ht2:((m+P / 2).tdiv P*P != m+P / 2)=true:=by simpa using he
      have hs':m+P / 2<0:=by omega
      clear he hs
      go_wp2
      go_ret
      exact⟨Ya6 (by rw[Z2.out];exact U2.out),rfl⟩
end Go.Proofs.YtnamlooifcpoaaaGreatDoor