/- Texts that SheetoutPuts's proof stands on, part 29 of 47. No condition of its own. -/
import Derived.Test.YtgikochfffdpfaaGreatDoorSheetoutPutsMa
import Derived.WalkKit
import Derived.ProofKit
import Derived.Lib.Hide
import Derived.Test.YtgikochfffdpfaaGreatDoorRows
namespace Go.Proofs.YtgikochfffdpfaaGreatDoor
open Go.RowKit
set_option maxHeartbeats 400000 in
theorem Yja (a b c:Int) (w:World):
  Calls Tryz.prog 118 #[.int .i64 a,.int .i64 b,.int .i64 c] w fun e w'=> e = .returned (.int .i64 (Ycv a b c))∧w=w':=by
 go_enter Tryz.func118,Tryz.ntmps118
 go_wp2
 all_goals (go_ret;exact ⟨Yfd (by unfold Ycv;omega),rfl⟩)
set_option maxHeartbeats 400000 in
theorem Ycx (a b c:Int) (w:World):
  Calls Tryz.prog 72 #[.int .i64 a,.int .i64 b,.int .i64 c] w fun e w'=> e = .returned (.int .i64 (Ycv a b c))∧w=w':=by
 go_enter Tryz.func72,Tryz.ntmps72
 go_wp2
 all_goals (go_ret;exact ⟨Yfd (by unfold Ycv;omega),rfl⟩)
set_option maxHeartbeats 400000 in
theorem Yog (n:Int) (w:World):
  Calls Tryz.prog 147 #[.int .i64 n] w fun e w'=> e = .returned (.int .i64 (Ya5 n))∧w=w':=by
 have ha:=Yyt n
 have h1:0≤n%64:=by omega
 have h2:n%64≤63:=by omega
 go_enter Tryz.func147,Tryz.ntmps147
 go_wp2
 all_goals (go_ret;exact ⟨Yfd (by unfold Ya5;omega),rfl⟩)
theorem Yyn (n:Int):-64<n.tmod 64∧n.tmod 64<64∧((0≤n.tmod 64∧n.tmod 64=n%64)∨(n.tmod 64<0∧n.tmod 64=n%64-64)):=by
 rw [Int.tmod_eq_emod]
 split <;> omega
set_option maxHeartbeats 400000 in
theorem Yvo (n:Int) (w:World):
  Calls Tryz.prog 69 #[.int .i64 n] w fun e w'=> e = .returned (.int .i64 (Ya5 n))∧w=w':=by
 obtain ⟨h1,h2,h3⟩:=Yyn n
 have H3:=Lib.hid h3
 clear h3
 go_enter Tryz.func69,Tryz.ntmps69
 go_wp2
 all_goals (go_ret;exact ⟨Yfd (by have:=H3.out;unfold Ya5;omega),rfl⟩)
end Go.Proofs.YtgikochfffdpfaaGreatDoor