/- Texts that SheetinTakes's proof stands on, part 26 of 52. No condition of its own. -/
import Derived.Test.YtpgdngijmihafaaGreatDoorSheetinTakesMa
import Derived.WalkKit
import Derived.ProofKit
import Derived.Lib.Hide
import Derived.Test.YtpgdngijmihafaaGreatDoorRows
namespace Go.Proofs.YtpgdngijmihafaaGreatDoor
open Go.RowKit
set_option maxHeartbeats 400000 in
theorem Ynh (a b c:Int) (w:World):
  Calls Tryz.prog 121 #[.int .i64 a,.int .i64 b,.int .i64 c] w fun e w'=> e = .returned (.int .i64 (Ydz a b c))∧w=w':=by
 go_enter Tryz.func121,Tryz.ntmps121
 go_wp2
 all_goals (go_ret;exact ⟨Yby (by unfold Ydz;omega),rfl⟩)
set_option maxHeartbeats 400000 in
theorem Yd1 (a b c:Int) (w:World):
  Calls Tryz.prog 46 #[.int .i64 a,.int .i64 b,.int .i64 c] w fun e w'=> e = .returned (.int .i64 (Ydz a b c))∧w=w':=by
 go_enter Tryz.func46,Tryz.ntmps46
 go_wp2
 all_goals (go_ret;exact ⟨Yby (by unfold Ydz;omega),rfl⟩)
set_option maxHeartbeats 400000 in
theorem Yed (n:Int) (w:World):
  Calls Tryz.prog 129 #[.int .i64 n] w fun e w'=> e = .returned (.int .i64 (Ycj n))∧w=w':=by
 have ha:=Y8r n
 have h1:0≤n%64:=by omega
 have h2:n%64≤63:=by omega
 go_enter Tryz.func129,Tryz.ntmps129
 go_wp2
 all_goals (go_ret;exact ⟨Yby (by unfold Ycj;omega),rfl⟩)
theorem Qar (n:Int):-64<n.tmod 64∧n.tmod 64<64∧((0≤n.tmod 64∧n.tmod 64=n%64)∨(n.tmod 64<0∧n.tmod 64=n%64-64)):=by
 rw [Int.tmod_eq_emod]
 split <;> omega
set_option maxHeartbeats 400000 in
theorem Yd9 (n:Int) (w:World):
  Calls Tryz.prog 43 #[.int .i64 n] w fun e w'=> e = .returned (.int .i64 (Ycj n))∧w=w':=by
 obtain ⟨h1,h2,h3⟩:=Qar n
 have H3:=Lib.hid h3
 clear h3
 go_enter Tryz.func43,Tryz.ntmps43
 go_wp2
 all_goals (go_ret;exact ⟨Yby (by have:=H3.out;unfold Ycj;omega),rfl⟩)
end Go.Proofs.YtpgdngijmihafaaGreatDoor