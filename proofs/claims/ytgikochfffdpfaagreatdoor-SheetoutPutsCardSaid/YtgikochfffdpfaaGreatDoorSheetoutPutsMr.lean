/- Texts that SheetoutPuts's proof stands on, part 18 of 47. No condition of its own. -/
import Derived.Test.YtgikochfffdpfaaGreatDoorSheetoutPutsMj
import Derived.Test.YtgikochfffdpfaaGreatDoorSheetoutPutsMm
import Derived.WalkMore
namespace Go.Proofs.YtgikochfffdpfaaGreatDoor
open Go.RowKit Go.Lib
theorem Ydi (a b c d:Int) (w:World):(Instr.index 67 (.agg #[.int .i64 a,.int .i64 b,.int .i64 c,.int .i64 d]) (.int .i64 0)).run Tryz.prog w = .ok (.int .i64 a) w∧
  (Instr.index 67 (.agg #[.int .i64 a,.int .i64 b,.int .i64 c,.int .i64 d]) (.int .i64 1)).run Tryz.prog w = .ok (.int .i64 b) w:=by
 obtain ⟨j,hj⟩:=Yii
 have h0:(0:Int)≤0∧(0:Int)<((4:Nat):Int):=by omega
 have h1:(0:Int)≤1∧(1:Int)<((4:Nat):Int):=by omega
 constructor
 ·simp only [Instr.index,asIntOf,Sem.run_bind,Sem.run_pure,Result.andThen_ok,run_underlying Tryz.underlying67,if_pos h0,run_sizeOf w hj,Yed,Nat.mul_one]
  exact run_part_plain w Yc4 rfl
 ·simp only [Instr.index,asIntOf,Sem.run_bind,Sem.run_pure,Result.andThen_ok,run_underlying Tryz.underlying67,if_pos h1,run_sizeOf w hj,Yed,Nat.mul_one]
  exact run_part_plain w Yc4 rfl
theorem Ys6 (k:Int):(Yf4 k).tdiv 16=(acr k:Int)∧(Ygi k).tdiv 16=(dow k:Int)∧(Yf4 k).tdiv 2=((8*acr k:Nat):Int)∧(Ygi k).tdiv 2=((8*dow k:Nat):Int):=by
 obtain ⟨_,_,h3,h4,_⟩:=Ycm k
 rw [h3,h4,Int.tdiv_eq_ediv_of_nonneg (by omega),Int.tdiv_eq_ediv_of_nonneg (by omega),Int.tdiv_eq_ediv_of_nonneg (by omega),Int.tdiv_eq_ediv_of_nonneg (by omega)]
 omega
set_option maxRecDepth 100000 in
set_option maxHeartbeats 2000000 in
theorem Ym6 (k:Int) (w:World):Calls Tryz.prog 60 #[.int .i64 k] w fun e w'=> e = .returned (.int .i64 (Yct k:Int))∧Below w.heap.size w w':=by
 have c:=fun w=> Ydj k w
 obtain ⟨d1,d2,-⟩:=Ys6 k
 obtain ⟨-,-,-,-,m1,m2⟩:=Ycm k
 have hs:(acr k:Int)*(dow k:Int)=(Yct k:Int):=(Int.natCast_mul _ _).symm
 have hw:IntKind.i64.wrap (Yct k:Int)=(Yct k:Int):=Yc8 (by have:=Yko k;omega)
 have w1:IntKind.i64.wrap (acr k:Int)=(acr k:Int):=Yc8 (by omega)
 have w2:IntKind.i64.wrap (dow k:Int)=(dow k:Int):=Yc8 (by omega)
 have ix0:=fun w=> (Ydi (Yf4 k) (Ygi k) (Yf3 k) (Yfm k) w).1
 have ix1:=fun w=> (Ydi (Yf4 k) (Ygi k) (Yf3 k) (Yfm k) w).2
 unfold Ys2 at c
 clear m1 m2
 generalize acr k=a at *
 generalize dow k=b at *
 generalize Yct k=m at *
 generalize Yf4 k=W at *
 generalize Ygi k=H at *
 generalize Yf3 k=R at *
 generalize Yfm k=L at *
 go_enter Tryz.func60,Tryz.ntmps60
 go_wp2_with fail
 refine (c _).mono ?_
 rintro e x1 ⟨rfl,hb1⟩
 go_wp2_with fail
 refine (c _).mono ?_
 rintro e x2 ⟨rfl,hb2⟩
 go_wp2
 go_ret
 exact ⟨rfl,hb1.trans (hb2.mono hb1.size)⟩
theorem Ywa (k:Int):((Yct k:Int)==0) = !Yem k:=by
 cases h:Yem k with
 | false=> rw [Yra h];rfl
 | true=>
  have h1:=Yvv h
  have h2:0<Yct k:=Nat.mul_pos h1.1 h1.2
  show ((Yct k:Int)==0)=false
  rw [beq_eq_false_iff_ne]
  omega
end Go.Proofs.YtgikochfffdpfaaGreatDoor