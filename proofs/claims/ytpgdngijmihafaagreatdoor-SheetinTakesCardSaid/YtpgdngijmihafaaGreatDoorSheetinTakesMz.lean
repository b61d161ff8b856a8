/- Texts that SheetinTakes's proof stands on, part 26 of 52. No condition of its own. -/
import Derived.Test.YtpgdngijmihafaaGreatDoorSheetinTakesMa
import Derived.WalkKit
import Derived.ProofKit
import Derived.Lib.Hide
import Derived.Test.YtpgdngijmihafaaGreatDoorRows
namespace Go.Proofs.YtpgdngijmihafaaGreatDoor
open Go.RowKit
set_option maxHeartbeats 400000 in
theorem Ynm (a b c:Int)(w:World):
  Calls Tryz.prog 121 #[.int .i64 a,.int .i64 b,.int .i64 c] w fun e w'=> e = .returned (.int .i64 (Yd4 a b c))∧w=w':=by
 go_enter Tryz.func121,Tryz.ntmps121
 go_wp2
 all_goals (go_ret;exact ⟨Yb1 (by unfold Yd4;omega),rfl⟩)
set_option maxHeartbeats 400000 in
theorem Yd8 (a b c:Int)(w:World):
  Calls Tryz.prog 46 #[.int .i64 a,.int .i64 b,.int .i64 c] w fun e w'=> e = .returned (.int .i64 (Yd4 a b c))∧w=w':=by
 go_enter Tryz.func46,Tryz.ntmps46
 go_wp2
 all_goals (go_ret;exact ⟨Yb1 (by unfold Yd4;omega),rfl⟩)
set_option maxHeartbeats 400000 in
theorem Yed (n:Int)(w:World):
  Calls Tryz.prog 129 #[.int .i64 n] w fun e w'=> e = .returned (.int .i64 (Ycn n))∧w=w':=by
 have ha:=Y8n n
 have h1:0≤n%64:=by omega
 have h2:n%64≤63:=by omega
 go_enter Tryz.func129,Tryz.ntmps129
 go_wp2
 all_goals (go_ret;exact ⟨Yb1 (by unfold Ycn;omega),rfl⟩)
theorem Y9m (n:Int):-64<n.tmod 64∧n.tmod 64<64∧((0≤n.tmod 64∧n.tmod 64=n%64)∨(n.tmod 64<0∧n.tmod 64=n%64-64)):=by
 rw [Int.tmod_eq_emod]
 split <;> omega
set_option maxHeartbeats 400000 in
theorem Yee (n:Int)(w:World):
  Calls Tryz.prog 43 #[.int .i64 n] w fun e w'=> e = .returned (.int .i64 (Ycn n))∧w=w':=by
 obtain ⟨h1,h2,h3⟩:=Y9m n
 have H3:=Lib.hid h3
 clear h3
 go_enter Tryz.func43,Tryz.ntmps43
 go_wp2
 all_goals (go_ret;exact ⟨Yb1 (by have:=H3.out;unfold Ycn;omega),rfl⟩)
end Go.Proofs.YtpgdngijmihafaaGreatDoor