/- No condition. -/
import Derived.Test.YtndbeacoaimdgaaDoorQuantsGoMb
import Derived.Test.YtndbeacoaimdgaaDoorRows
import Derived.WalkKit
import Derived.ProofKit
import Derived.Lib.Hide
namespace Go.Proofs.YtndbeacoaimdgaaDoor
open Go.RowKit
set_option maxHeartbeats 400000 in
theorem Yg0 (n lo hi:Int)(w:World):
  Calls Tryd.prog 47 #[.int .i64 n,.int .i64 lo,.int .i64 hi] w fun e w'=>e=.returned (.int .i64 (Yds n lo hi))∧w=w':=by
 go_enter Tryd.func47,Tryd.ntmps47
 go_wp2
 all_goals (go_ret;exact⟨Ygi (by unfold Yds;omega),rfl⟩)
set_option maxHeartbeats 400000 in
theorem Yh1 (n:Int)(w:World):
  Calls Tryd.prog 79 #[.int .i64 n] w fun e w'=>e=.returned (.int .i64 (Yh6 n))∧w=w':=by
 have ha:=Ypf n;have h1:0≤n%64:=by omega
 have h2:n%64≤63:=by omega
 go_enter Tryd.func79,Tryd.ntmps79
 go_wp2
 all_goals (go_ret;exact⟨Ygi (by unfold Yh6;omega),rfl⟩)
end Go.Proofs.YtndbeacoaimdgaaDoor