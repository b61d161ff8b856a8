/- No condition. -/
import Derived.Test.YtnamlooifcpoaaaGreatDoorScreensStillMg
import Derived.Test.YtnamlooifcpoaaaGreatDoorScreensStillMu
import Derived.WalkKit
import Derived.Laws.Bits64b
import Derived.Laws.Externs
import Derived.Lib.MakeNoZero
import Derived.Deep.Draws
namespace Go.Proofs.YtnamlooifcpoaaaGreatDoor
open Go.RowKit Go.Lib
set_option maxRecDepth 100000 in
theorem Ytf (n:Nat)(hn:n<4294967296)(w:World):Calls Tryz.prog 125 #[.int .u64 1,.int .u64 (n:Int)] w fun e w'=>e=.returned (.tuple #[.int .u64 0,.int .u64 (n:Int)])∧w=w':=by
 have a1:bits .and .u64 (1:Int) 4294967295=1:=by decide +kernel
 have a0:bits .and .u64 (0:Int) 4294967295=0:=by decide +kernel
 have a2:bits .and .u64 (n:Int) 4294967295=(n:Int):=by
  have h:=bits_and_u64_nat n 4294967295 (by omega) (by omega);have e:n &&& 4294967295=n%4294967296:=Nat.and_two_pow_sub_one_eq_mod n 32;rw[e,Nat.mod_eq_of_lt hn] at h;exact h
 have d0:(n:Int) / 4294967296=0:=by omega
 have w0:IntKind.u64.wrap (n:Int)=(n:Int):=by rw[IntKind.wrap_u64];omega
 go_enter Tryz.func125,Tryz.ntmps125
 go_wp2
 go_ret2
 exact⟨rfl,rfl⟩
set_option maxRecDepth 100000 in
theorem Yl2 (n:Nat)(hn:n<4294967296)(w:World):Calls Tryz.prog 100 #[.int .u64 1,.int .u64 (n:Int)] w fun e w'=>e=.returned (.tuple #[.int .u64 0,.int .u64 (n:Int)])∧w=w':=by
 have c:=fun w=>Ytf n hn w
 go_enter Tryz.func100,Tryz.ntmps100
 go_wp2_with (with_reducible refine(c _).mono ?_;rintro e w1 ⟨rfl,rfl⟩)
 go_ret2
 exact⟨rfl,rfl⟩
end Go.Proofs.YtnamlooifcpoaaaGreatDoor