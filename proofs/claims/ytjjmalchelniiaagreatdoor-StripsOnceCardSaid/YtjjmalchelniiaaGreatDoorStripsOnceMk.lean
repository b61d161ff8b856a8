/- Part 11 of StripsOnce. No condition. -/
import Derived.Test.YtjjmalchelniiaaGreatDoorStripsOnceMb
import Derived.Test.YtjjmalchelniiaaGreatDoorRows
import Derived.WalkKit
import Derived.WalkMore
import Derived.ProofKit
import Derived.Lib.Hide
namespace Go.Proofs.YtjjmalchelniiaaGreatDoor
open Go.RowKit
set_option maxHeartbeats 1000000 in
theorem Yrd (k:Int)(w:World):Calls Tryz.prog 147 #[.int .i64 k] w fun e w'=>e=.returned (.tuple #[.int .i64 (Y8r k),.int .i64 (Qdw k),.bool (Ygx k)])∧w=w':=by
 rcases Yd7 k with rfl|rfl|rfl|rfl|rfl|rfl|⟨h,hv⟩
 case _|_|_|_|_|_=>
  go_enter Tryz.func147,Tryz.ntmps147
  go_wp2
  go_ret3
  exact⟨rfl,rfl⟩
 obtain⟨t1,t2,t3,t4,t5,t6⟩:=Y1k h;unfold Y8r Qdw;rw[h,hv];clear h hv
 go_enter Tryz.func147,Tryz.ntmps147
 go_wp2
 go_ret3
 exact⟨rfl,rfl⟩
set_option maxHeartbeats 1000000 in
theorem Yim (k:Int)(w:World):Calls Tryz.prog 79 #[.int .i64 k] w fun e w'=>e=.returned (.tuple #[.int .i64 (Yhx k),.int .i64 (Yjv k)])∧w=w':=by
 rcases Yd7 k with rfl|rfl|rfl|rfl|rfl|rfl|⟨h,hv⟩
 case _|_|_|_|_|_=>
  go_enter Tryz.func79,Tryz.ntmps79
  go_wp2
  go_ret2
  exact⟨rfl,rfl⟩
 obtain⟨t1,t2,t3,t4,t5,t6⟩:=Y1k h;unfold Yhx Yjv;rw[hv];clear h hv
 go_enter Tryz.func79,Tryz.ntmps79
 go_wp2
 go_ret2
 exact⟨rfl,rfl⟩
def Yd0 (k:Int):Int:=Y8r k / 16
def Y8q (k:Int):Int:=Qdw k / 16
set_option maxHeartbeats 1000000 in
theorem Yfn (k:Int)(w:World):Calls Tryz.prog 114 #[.int .i64 k] w fun e w'=>e=.returned (.tuple #[.int .i64 (Yd0 k),.int .i64 (Y8q k)])∧w=w':=by
 have c:=Yrd k w;have hv:(Y8r k).tdiv 16=Yd0 k∧(Qdw k).tdiv 16=Y8q k:=by
  rcases Yd7 k with rfl|rfl|rfl|rfl|rfl|rfl|⟨_,hv⟩
  case _|_|_|_|_|_=>exact⟨rfl,rfl⟩
  unfold Yd0 Y8q Y8r Qdw;rw[hv];exact⟨rfl,rfl⟩
 have hw:IntKind.i64.wrap (Yd0 k)=Yd0 k∧IntKind.i64.wrap (Y8q k)=Y8q k:=by
  rcases Yd7 k with rfl|rfl|rfl|rfl|rfl|rfl|⟨_,hv⟩
  case _|_|_|_|_|_=>exact⟨rfl,rfl⟩
  unfold Yd0 Y8q Y8r Qdw;rw[hv];exact⟨rfl,rfl⟩
 obtain⟨v1,v2⟩:=hv;obtain⟨v3,v4⟩:=hw;generalize Y8r k=a at c v1;generalize Qdw k=b at c v2;generalize Yd0 k=a2 at v1 v3 ⊢;generalize Y8q k=b2 at v2 v4 ⊢
 go_enter Tryz.func114,Tryz.ntmps114
 go_wp2_with (first|(with_reducible refine c.mono ?_;rintro e w1 ⟨rfl,rfl⟩))
 go_ret2
 exact⟨rfl,rfl⟩
end Go.Proofs.YtjjmalchelniiaaGreatDoor
namespace Go.Proofs.YtjjmalchelniiaaGreatDoor
def acr (k:Int):Nat:=(Yd0 k).toNat
def dow (k:Int):Nat:=(Y8q k).toNat
def wid (k:Int)(p:Nat):Nat:=if p=0 then 16*acr k else 8*acr k
def Yji (k:Int):Nat:=acr k*dow k
theorem Yje (k:Int):(acr k:Int)=Yd0 k∧(dow k:Int)=Y8q k∧Y8r k=16*(acr k:Int)∧Qdw k=16*(dow k:Int)∧acr k≤88∧dow k≤72:=by
 rcases Yd7 k with rfl|rfl|rfl|rfl|rfl|rfl|⟨h,hv⟩
 case _|_|_|_|_|_=>decide +kernel
 unfold acr dow Yd0 Y8q Y8r Qdw;rw[hv]
 decide +kernel
theorem Y3r (k:Int):Yji k≤6336:=Nat.mul_le_mul (Yje k).2.2.2.2.1 (Yje k).2.2.2.2.2
def plc (b:Nat):Nat:=if b<4 then 0 else b-3
def col (k:Int)(n b:Nat):Nat:=if b<4 then 2*(n%acr k)+b%2 else n%acr k
def lin (k:Int)(n b:Nat):Nat:=if b<4 then 2*(n / acr k)+b / 2 else n / acr k
def fst8 (k:Int)(n b:Nat):Nat:=8*(lin k n b*wid k (plc b)+col k n b)
def pos (k:Int)(n b i:Nat):Nat:=fst8 k n b+i / 8*wid k (plc b)+i%8
theorem Y3q {k:Int}{n:Nat}(h:n<Yji k):0<acr k∧n%acr k<acr k∧n / acr k<dow k:=by
 have h0:0<acr k:=by
  rcases Nat.eq_zero_or_pos (acr k) with h1|h1
  ·unfold Yji at h;rw[h1,Nat.zero_mul] at h;cases h
  ·exact h1
 exact⟨h0,Nat.mod_lt _ h0,Nat.div_lt_of_lt_mul h⟩
end Go.Proofs.YtjjmalchelniiaaGreatDoor
namespace Go.Proofs.YtjjmalchelniiaaGreatDoor
open Go.RowKit
def Qgn (k n:Int):Bool:=decide (0≤n)&&decide (n<(Yji k:Int))
theorem Qdx {k n:Int}:Qgn k n=true↔0≤n∧n.toNat<Yji k:=by
 unfold Qgn;simp;omega
def Yi8 (c m:Nat)(v:Int):Bool:=decide (-32≤v∧v≤31)&&decide (0≤32*(c:Int)+v∧32*(c:Int)+v+30≤32*(m:Int)-2)
def Y9c (k n a b:Int):Bool:=Qgn k n&&(Yi8 (n.toNat%acr k) (acr k) a&&Yi8 (n.toNat / acr k) (dow k) b)
set_option maxHeartbeats 400000 in
theorem You (a b c:Int)(w:World):
  Calls Tryz.prog 169 #[.int .i64 a,.int .i64 b,.int .i64 c] w fun e w'=>e=.returned (.int .i64 (Ymf a b c))∧w=w':=by
 go_enter Tryz.func169,Tryz.ntmps169
 go_wp2
 all_goals (go_ret;exact⟨Ydy (by unfold Ymf;omega),rfl⟩)
set_option maxHeartbeats 400000 in
theorem Ygr (n:Int)(w:World):
  Calls Tryz.prog 171 #[.int .i64 n] w fun e w'=>e=.returned (.int .i64 (Yca n))∧w=w':=by
 have ha:=Qgc n;have h1:0≤n%64:=by omega
 have h2:n%64≤63:=by omega
 go_enter Tryz.func171,Tryz.ntmps171
 go_wp2
 all_goals (go_ret;exact⟨Ydy (by unfold Yca;omega),rfl⟩)
end Go.Proofs.YtjjmalchelniiaaGreatDoor