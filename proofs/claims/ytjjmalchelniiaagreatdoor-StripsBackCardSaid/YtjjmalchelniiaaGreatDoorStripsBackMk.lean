/- Part 11 of StripsBack. No condition. -/
import Derived.Test.YtjjmalchelniiaaGreatDoorStripsBackMb
import Derived.Test.YtjjmalchelniiaaGreatDoorRows
import Derived.WalkKit
import Derived.WalkMore
import Derived.ProofKit
import Derived.Lib.Hide
namespace Go.Proofs.YtjjmalchelniiaaGreatDoor
open Go.RowKit
set_option maxHeartbeats 1000000 in
theorem Yro (k:Int)(w:World):Calls Tryz.prog 147 #[.int .i64 k] w fun e w'=>e=.returned (.tuple #[.int .i64 (Y9y k),.int .i64 (Qe7 k),.bool (Yg6 k)])∧w=w':=by
 rcases Yeb k with rfl|rfl|rfl|rfl|rfl|rfl|⟨h,hv⟩
 case _|_|_|_|_|_=>
  go_enter Tryz.func147,Tryz.ntmps147
  go_wp2
  go_ret3
  exact⟨rfl,rfl⟩
 obtain⟨t1,t2,t3,t4,t5,t6⟩:=Y2d h;unfold Y9y Qe7;rw[h,hv];clear h hv
 go_enter Tryz.func147,Tryz.ntmps147
 go_wp2
 go_ret3
 exact⟨rfl,rfl⟩
set_option maxHeartbeats 1000000 in
theorem Yis (k:Int)(w:World):Calls Tryz.prog 79 #[.int .i64 k] w fun e w'=>e=.returned (.tuple #[.int .i64 (Yh5 k),.int .i64 (Yj4 k)])∧w=w':=by
 rcases Yeb k with rfl|rfl|rfl|rfl|rfl|rfl|⟨h,hv⟩
 case _|_|_|_|_|_=>
  go_enter Tryz.func79,Tryz.ntmps79
  go_wp2
  go_ret2
  exact⟨rfl,rfl⟩
 obtain⟨t1,t2,t3,t4,t5,t6⟩:=Y2d h;unfold Yh5 Yj4;rw[hv];clear h hv
 go_enter Tryz.func79,Tryz.ntmps79
 go_wp2
 go_ret2
 exact⟨rfl,rfl⟩
def Yd4 (k:Int):Int:=Y9y k / 16
def Y9x (k:Int):Int:=Qe7 k / 16
set_option maxHeartbeats 1000000 in
theorem Yfw (k:Int)(w:World):Calls Tryz.prog 114 #[.int .i64 k] w fun e w'=>e=.returned (.tuple #[.int .i64 (Yd4 k),.int .i64 (Y9x k)])∧w=w':=by
 have c:=Yro k w;have hv:(Y9y k).tdiv 16=Yd4 k∧(Qe7 k).tdiv 16=Y9x k:=by
  rcases Yeb k with rfl|rfl|rfl|rfl|rfl|rfl|⟨_,hv⟩
  case _|_|_|_|_|_=>exact⟨rfl,rfl⟩
  unfold Yd4 Y9x Y9y Qe7;rw[hv];exact⟨rfl,rfl⟩
 have hw:IntKind.i64.wrap (Yd4 k)=Yd4 k∧IntKind.i64.wrap (Y9x k)=Y9x k:=by
  rcases Yeb k with rfl|rfl|rfl|rfl|rfl|rfl|⟨_,hv⟩
  case _|_|_|_|_|_=>exact⟨rfl,rfl⟩
  unfold Yd4 Y9x Y9y Qe7;rw[hv];exact⟨rfl,rfl⟩
 obtain⟨v1,v2⟩:=hv;obtain⟨v3,v4⟩:=hw;generalize Y9y k=a at c v1;generalize Qe7 k=b at c v2;generalize Yd4 k=a2 at v1 v3 ⊢;generalize Y9x k=b2 at v2 v4 ⊢
 go_enter Tryz.func114,Tryz.ntmps114
 go_wp2_with (first|(with_reducible refine c.mono ?_;rintro e w1 ⟨rfl,rfl⟩))
 go_ret2
 exact⟨rfl,rfl⟩
end Go.Proofs.YtjjmalchelniiaaGreatDoor
namespace Go.Proofs.YtjjmalchelniiaaGreatDoor
def acr (k:Int):Nat:=(Yd4 k).toNat
def dow (k:Int):Nat:=(Y9x k).toNat
def wid (k:Int)(p:Nat):Nat:=if p=0 then 16*acr k else 8*acr k
def Yjq (k:Int):Nat:=acr k*dow k
theorem Yjm (k:Int):(acr k:Int)=Yd4 k∧(dow k:Int)=Y9x k∧Y9y k=16*(acr k:Int)∧Qe7 k=16*(dow k:Int)∧acr k≤88∧dow k≤72:=by
 rcases Yeb k with rfl|rfl|rfl|rfl|rfl|rfl|⟨h,hv⟩
 case _|_|_|_|_|_=>decide +kernel
 unfold acr dow Yd4 Y9x Y9y Qe7;rw[hv]
 decide +kernel
theorem Y4j (k:Int):Yjq k≤6336:=Nat.mul_le_mul (Yjm k).2.2.2.2.1 (Yjm k).2.2.2.2.2
def plc (b:Nat):Nat:=if b<4 then 0 else b-3
def col (k:Int)(n b:Nat):Nat:=if b<4 then 2*(n%acr k)+b%2 else n%acr k
def lin (k:Int)(n b:Nat):Nat:=if b<4 then 2*(n / acr k)+b / 2 else n / acr k
def fst8 (k:Int)(n b:Nat):Nat:=8*(lin k n b*wid k (plc b)+col k n b)
def pos (k:Int)(n b i:Nat):Nat:=fst8 k n b+i / 8*wid k (plc b)+i%8
theorem Y4i {k:Int}{n:Nat}(h:n<Yjq k):0<acr k∧n%acr k<acr k∧n / acr k<dow k:=by
 have h0:0<acr k:=by
  rcases Nat.eq_zero_or_pos (acr k) with h1|h1
  ·unfold Yjq at h;rw[h1,Nat.zero_mul] at h;cases h
  ·exact h1
 exact⟨h0,Nat.mod_lt _ h0,Nat.div_lt_of_lt_mul h⟩
end Go.Proofs.YtjjmalchelniiaaGreatDoor
namespace Go.Proofs.YtjjmalchelniiaaGreatDoor
open Go.RowKit
def Qhx (k n:Int):Bool:=decide (0≤n)&&decide (n<(Yjq k:Int))
theorem Qe8 {k n:Int}:Qhx k n=true↔0≤n∧n.toNat<Yjq k:=by
 unfold Qhx;simp;omega
def Yjh (c m:Nat)(v:Int):Bool:=decide (-32≤v∧v≤31)&&decide (0≤32*(c:Int)+v∧32*(c:Int)+v+30≤32*(m:Int)-2)
def Qan (k n a b:Int):Bool:=Qhx k n&&(Yjh (n.toNat%acr k) (acr k) a&&Yjh (n.toNat / acr k) (dow k) b)
set_option maxHeartbeats 400000 in
theorem Yo1 (a b c:Int)(w:World):
  Calls Tryz.prog 169 #[.int .i64 a,.int .i64 b,.int .i64 c] w fun e w'=>e=.returned (.int .i64 (Ymo a b c))∧w=w':=by
 go_enter Tryz.func169,Tryz.ntmps169
 go_wp2
 all_goals (go_ret;exact⟨Yd3 (by unfold Ymo;omega),rfl⟩)
set_option maxHeartbeats 400000 in
theorem Yg0 (n:Int)(w:World):
  Calls Tryz.prog 171 #[.int .i64 n] w fun e w'=>e=.returned (.int .i64 (Ycb n))∧w=w':=by
 have ha:=Qhn n;have h1:0≤n%64:=by omega
 have h2:n%64≤63:=by omega
 go_enter Tryz.func171,Tryz.ntmps171
 go_wp2
 all_goals (go_ret;exact⟨Yd3 (by unfold Ycb;omega),rfl⟩)
end Go.Proofs.YtjjmalchelniiaaGreatDoor