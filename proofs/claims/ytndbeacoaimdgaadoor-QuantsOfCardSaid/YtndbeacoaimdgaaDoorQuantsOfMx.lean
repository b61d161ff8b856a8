/- No condition. -/
import Derived.Test.YtndbeacoaimdgaaDoorQuantsOfMb
import Derived.Test.YtndbeacoaimdgaaDoorRows
import Derived.WalkKit
import Derived.ProofKit
import Derived.Lib.Hide
namespace Go.Proofs.YtndbeacoaimdgaaDoor
open Go.RowKit
set_option maxHeartbeats 400000 in
theorem Yik (n lo hi:Int)(w:World):
  Calls Tryd.prog 47 #[.int .i64 n,.int .i64 lo,.int .i64 hi] w fun e w'=>e=.returned (.int .i64 (Yb8 n lo hi))∧w=w':=by
 go_enter Tryd.func47,Tryd.ntmps47
 go_wp2
 all_goals (go_ret;exact⟨Ydd (by unfold Yb8;omega),rfl⟩)
set_option maxHeartbeats 400000 in
theorem Yfv (n lo hi:Int)(w:World):
  Calls Tryd.prog 27 #[.int .i64 n,.int .i64 lo,.int .i64 hi] w fun e w'=>e=.returned (.int .i64 (Yb8 n lo hi))∧w=w':=by
 by_cases h1:hi<lo
 ·go_enter Tryd.func27,Tryd.ntmps27
  go_wp2
  all_goals (go_ret;exact⟨Ydd (by unfold Yb8;omega),rfl⟩)
 ·by_cases h2:n<lo
  ·go_enter Tryd.func27,Tryd.ntmps27
   go_wp2
   all_goals (go_ret;exact⟨Ydd (by unfold Yb8;omega),rfl⟩)
  ·go_enter Tryd.func27,Tryd.ntmps27
   go_wp2
   all_goals (go_ret;exact⟨Ydd (by unfold Yb8;omega),rfl⟩)
set_option maxHeartbeats 400000 in
theorem Yjn (n:Int)(w:World):
  Calls Tryd.prog 79 #[.int .i64 n] w fun e w'=>e=.returned (.int .i64 (Ygi n))∧w=w':=by
 have ha:=Yq4 n;have h1:0≤n%64:=by omega
 have h2:n%64≤63:=by omega
 go_enter Tryd.func79,Tryd.ntmps79
 go_wp2
 all_goals (go_ret;exact⟨Ydd (by unfold Ygi;omega),rfl⟩)
end Go.Proofs.YtndbeacoaimdgaaDoor