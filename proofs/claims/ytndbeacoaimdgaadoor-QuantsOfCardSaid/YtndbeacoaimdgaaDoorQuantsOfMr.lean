/- No condition. -/
import Derived.Test.YtndbeacoaimdgaaDoorQuantsOfMk
import Derived.Test.YtndbeacoaimdgaaDoorQuantsOfMn
import Derived.WalkMore
namespace Go.Proofs.YtndbeacoaimdgaaDoor
open Go.RowKit Go.Lib
theorem Ycc (a b c d:Int)(w:World):(Instr.index 45 (.agg #[.int .i64 a,.int .i64 b,.int .i64 c,.int .i64 d]) (.int .i64 0)).run Tryd.prog w=.ok (.int .i64 a) w∧
  (Instr.index 45 (.agg #[.int .i64 a,.int .i64 b,.int .i64 c,.int .i64 d]) (.int .i64 1)).run Tryd.prog w=.ok (.int .i64 b) w:=by
 obtain⟨j,hj⟩:=Yff;have h0:(0:Int)≤0∧(0:Int)<((4:Nat):Int):=by omega
 have h1:(0:Int)≤1∧(1:Int)<((4:Nat):Int):=by omega
 constructor
 ·simp only[Instr.index,asIntOf,Sem.run_bind,Sem.run_pure,Result.andThen_ok,run_underlying Tryd.underlying45,if_pos h0,run_sizeOf w hj,Yct,Nat.mul_one];exact run_part_plain w Yb4 rfl
 ·simp only[Instr.index,asIntOf,Sem.run_bind,Sem.run_pure,Result.andThen_ok,run_underlying Tryd.underlying45,if_pos h1,run_sizeOf w hj,Yct,Nat.mul_one];exact run_part_plain w Yb4 rfl
theorem Ymp (k:Int):(Yd6 k).tdiv 16=(acr k:Int)∧(Yd5 k).tdiv 16=(dow k:Int)∧(Yd6 k).tdiv 2=((8*acr k:Nat):Int)∧(Yd5 k).tdiv 2=((8*dow k:Nat):Int):=by
 obtain⟨_,_,h3,h4,_⟩:=Ycd k;rw[h3,h4,Int.tdiv_eq_ediv_of_nonneg (by omega),Int.tdiv_eq_ediv_of_nonneg (by omega),Int.tdiv_eq_ediv_of_nonneg (by omega),Int.tdiv_eq_ediv_of_nonneg (by omega)];omega
set_option maxRecDepth 100000 in
set_option maxHeartbeats 2000000 in
theorem Yiw (k:Int)(w:World):Calls Tryd.prog 23 #[.int .i64 k] w fun e w'=>e=.returned (.int .i64 (Ybv k:Int))∧Below w.heap.size w w':=by
 have c:=fun w=>Ycs k w;obtain⟨d1,d2,-⟩:=Ymp k;obtain⟨-,-,-,-,m1,m2⟩:=Ycd k;have hs:(acr k:Int)*(dow k:Int)=(Ybv k:Int):=(Int.natCast_mul _ _).symm;have hw:IntKind.i64.wrap (Ybv k:Int)=(Ybv k:Int):=Yd3 (by have:=Ygw k;omega);have w1:IntKind.i64.wrap (acr k:Int)=(acr k:Int):=Yd3 (by omega);have w2:IntKind.i64.wrap (dow k:Int)=(dow k:Int):=Yd3 (by omega)
 have ix0:=fun w=>(Ycc (Yd6 k) (Yd5 k) (Ye0 k) (Yfd k) w).1;have ix1:=fun w=>(Ycc (Yd6 k) (Yd5 k) (Ye0 k) (Yfd k) w).2;unfold Ync at c;clear m1 m2;generalize acr k=a at *;generalize dow k=b at *;generalize Ybv k=m at *;generalize Yd6 k=W at *;generalize Yd5 k=H at *;generalize Ye0 k=R at *;generalize Yfd k=L at *
 go_enter Tryd.func23,Tryd.ntmps23
 go_wp2_with fail
 refine(c _).mono ?_;rintro e x1 ⟨rfl,hb1⟩
 go_wp2_with fail
 refine(c _).mono ?_;rintro e x2 ⟨rfl,hb2⟩
 go_wp2
 go_ret
 exact⟨rfl,hb1.trans (hb2.mono hb1.size)⟩
theorem Yox (k:Int):((Ybv k:Int)==0) = !Yc3 k:=by
 cases h:Yc3 k with
 |false=>rw[Ylh h];rfl
 |true=>
  have h1:=Yom h;have h2:0<Ybv k:=Nat.mul_pos h1.1 h1.2;show ((Ybv k:Int)==0)=false;rw[beq_eq_false_iff_ne];omega
end Go.Proofs.YtndbeacoaimdgaaDoor