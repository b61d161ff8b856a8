/- No condition. -/
import Derived.Test.YtndbeacoaimdgaaDoorQuantsGoMb
import Derived.Test.YtndbeacoaimdgaaDoorRows
import Derived.WalkKit
import Derived.WalkMore
import Derived.ProofKit
namespace Go.Proofs.YtndbeacoaimdgaaDoor
open Go.RowKit
set_option maxHeartbeats 1000000 in
theorem Yfm (k:Int)(w:World):Calls Tryd.prog 69 #[.int .i64 k] w fun e w'=>e=.returned (.tuple #[.int .i64 (Ym6 k),.int .i64 (Ym4 k),.bool (Yep k)])∧w=w':=by
 rcases Ybo k with rfl|rfl|rfl|rfl|rfl|rfl|⟨h,hv⟩
 case _|_|_|_|_|_=>
  go_enter Tryd.func69,Tryd.ntmps69
  go_wp2
  go_ret3
  exact⟨rfl,rfl⟩
 obtain⟨t1,t2,t3,t4,t5,t6⟩:=Yis h;unfold Ym6 Ym4;rw[h,hv];clear h hv
 go_enter Tryd.func69,Tryd.ntmps69
 go_wp2
 go_ret3
 exact⟨rfl,rfl⟩
set_option maxHeartbeats 1000000 in
theorem Yfl (k:Int)(w:World):Calls Tryd.prog 38 #[.int .i64 k] w fun e w'=>e=.returned (.tuple #[.int .i64 (Ym5 k),.int .i64 (Yom k)])∧w=w':=by
 rcases Ybo k with rfl|rfl|rfl|rfl|rfl|rfl|⟨h,hv⟩
 case _|_|_|_|_|_=>
  go_enter Tryd.func38,Tryd.ntmps38
  go_wp2
  go_ret2
  exact⟨rfl,rfl⟩
 obtain⟨t1,t2,t3,t4,t5,t6⟩:=Yis h;unfold Ym5 Yom;rw[hv];clear h hv
 go_enter Tryd.func38,Tryd.ntmps38
 go_wp2
 go_ret2
 exact⟨rfl,rfl⟩
def Yjn (k:Int):Int:=Ym6 k / 16
def Yld (k:Int):Int:=Ym4 k / 16
set_option maxHeartbeats 1000000 in
theorem Yc7 (k:Int)(w:World):Calls Tryd.prog 54 #[.int .i64 k] w fun e w'=>e=.returned (.tuple #[.int .i64 (Yjn k),.int .i64 (Yld k)])∧w=w':=by
 have c:=Yfm k w;have hv:(Ym6 k).tdiv 16=Yjn k∧(Ym4 k).tdiv 16=Yld k:=by
  rcases Ybo k with rfl|rfl|rfl|rfl|rfl|rfl|⟨_,hv⟩
  case _|_|_|_|_|_=>exact⟨rfl,rfl⟩
  unfold Yjn Yld Ym6 Ym4;rw[hv];exact⟨rfl,rfl⟩
 have hw:IntKind.i64.wrap (Yjn k)=Yjn k∧IntKind.i64.wrap (Yld k)=Yld k:=by
  rcases Ybo k with rfl|rfl|rfl|rfl|rfl|rfl|⟨_,hv⟩
  case _|_|_|_|_|_=>exact⟨rfl,rfl⟩
  unfold Yjn Yld Ym6 Ym4;rw[hv];exact⟨rfl,rfl⟩
 obtain⟨v1,v2⟩:=hv;obtain⟨v3,v4⟩:=hw;generalize Ym6 k=a at c v1;generalize Ym4 k=b at c v2;generalize Yjn k=a2 at v1 v3 ⊢;generalize Yld k=b2 at v2 v4 ⊢
 go_enter Tryd.func54,Tryd.ntmps54
 go_wp2_with (first|(with_reducible refine c.mono ?_;rintro e w1 ⟨rfl,rfl⟩))
 go_ret2
 exact⟨rfl,rfl⟩
end Go.Proofs.YtndbeacoaimdgaaDoor
namespace Go.Proofs.YtndbeacoaimdgaaDoor
def acr (k:Int):Nat:=(Yjn k).toNat
def dow (k:Int):Nat:=(Yld k).toNat
def Yek (k:Int):Nat:=acr k*dow k
theorem Yeh (k:Int):(acr k:Int)=Yjn k∧(dow k:Int)=Yld k∧Ym6 k=16*(acr k:Int)∧Ym4 k=16*(dow k:Int)∧acr k≤88∧dow k≤72:=by
 rcases Ybo k with rfl|rfl|rfl|rfl|rfl|rfl|⟨h,hv⟩
 case _|_|_|_|_|_=>decide +kernel
 unfold acr dow Yjn Yld Ym6 Ym4;rw[hv]
 decide +kernel
theorem Yjj (k:Int):Yek k≤6336:=Nat.mul_le_mul (Yeh k).2.2.2.2.1 (Yeh k).2.2.2.2.2
theorem Yji {k:Int}{n:Nat}(h:n<Yek k):0<acr k∧n%acr k<acr k∧n / acr k<dow k:=by
 have h0:0<acr k:=by
  rcases Nat.eq_zero_or_pos (acr k) with h1|h1
  ·unfold Yek at h;rw[h1,Nat.zero_mul] at h;cases h
  ·exact h1
 exact⟨h0,Nat.mod_lt _ h0,Nat.div_lt_of_lt_mul h⟩
end Go.Proofs.YtndbeacoaimdgaaDoor
namespace Go.Proofs.YtndbeacoaimdgaaDoor
open Go.RowKit
def Yn8 (k n:Int):Bool:=decide (0≤n)&&decide (n<(Yek k:Int))
theorem Ym7 {k n:Int}:Yn8 k n=true↔0≤n∧n.toNat<Yek k:=by
 unfold Yn8;simp;omega
def Yc0 (c m:Nat)(v:Int):Bool:=decide (-32≤v∧v≤31)&&decide (0≤32*(c:Int)+v∧32*(c:Int)+v+30≤32*(m:Int)-2)
def Yn9 (k n a b:Int):Bool:=Yn8 k n&&(Yc0 (n.toNat%acr k) (acr k) a&&Yc0 (n.toNat / acr k) (dow k) b)
end Go.Proofs.YtndbeacoaimdgaaDoor