/- No condition. -/
import Derived.Test.YtdnjefldijjgdaaDoorRebuildSkipsMb
import Derived.Test.YtdnjefldijjgdaaDoorRows
import Derived.WalkKit
import Derived.WalkMore
import Derived.ProofKit
namespace Go.Proofs.YtdnjefldijjgdaaDoor
open Go.RowKit
set_option maxHeartbeats 1000000 in
theorem Yed (k:Int)(w:World):Calls Tryd.prog 35 #[.int .i64 k] w fun e w'=>e=.returned (.tuple #[.int .i64 (Yft k),.int .i64 (Yfs k),.bool (Yc4 k)])∧w=w':=by
 rcases Yb0 k with rfl|rfl|rfl|rfl|rfl|rfl|⟨h,hv⟩
 case _|_|_|_|_|_=>
  go_enter Tryd.func35,Tryd.ntmps35
  go_wp2
  go_ret3
  exact⟨rfl,rfl⟩
 obtain⟨t1,t2,t3,t4,t5,t6⟩:=Yo7 h;unfold Yft Yfs;rw[h,hv];clear h hv
 go_enter Tryd.func35,Tryd.ntmps35
 go_wp2
 go_ret3
 exact⟨rfl,rfl⟩
def Ymr (k:Int):Int:=Yft k / 16
def Yms (k:Int):Int:=Yfs k / 16
set_option maxHeartbeats 1000000 in
theorem Yb7 (k:Int)(w:World):Calls Tryd.prog 25 #[.int .i64 k] w fun e w'=>e=.returned (.tuple #[.int .i64 (Ymr k),.int .i64 (Yms k)])∧w=w':=by
 have c:=Yed k w;have hv:(Yft k).tdiv 16=Ymr k∧(Yfs k).tdiv 16=Yms k:=by
  rcases Yb0 k with rfl|rfl|rfl|rfl|rfl|rfl|⟨_,hv⟩
  case _|_|_|_|_|_=>exact⟨rfl,rfl⟩
  unfold Ymr Yms Yft Yfs;rw[hv];exact⟨rfl,rfl⟩
 have hw:IntKind.i64.wrap (Ymr k)=Ymr k∧IntKind.i64.wrap (Yms k)=Yms k:=by
  rcases Yb0 k with rfl|rfl|rfl|rfl|rfl|rfl|⟨_,hv⟩
  case _|_|_|_|_|_=>exact⟨rfl,rfl⟩
  unfold Ymr Yms Yft Yfs;rw[hv];exact⟨rfl,rfl⟩
 obtain⟨v1,v2⟩:=hv;obtain⟨v3,v4⟩:=hw;generalize Yft k=a at c v1;generalize Yfs k=b at c v2;generalize Ymr k=a2 at v1 v3 ⊢;generalize Yms k=b2 at v2 v4 ⊢
 go_enter Tryd.func25,Tryd.ntmps25
 go_wp2_with (first|(with_reducible refine c.mono ?_;rintro e w1 ⟨rfl,rfl⟩))
 go_ret2
 exact⟨rfl,rfl⟩
def Yr5 (k p:Int):Int×Int:=if p=0 then (Yft k,Yfs k) else if p=1∨p=2 then (Yft k / 2,Yfs k / 2) else (0,0)
theorem Ydm (k p:Int)(w:World):Calls Tryd.prog 26 #[.int .i64 k,.int .i64 p] w fun e w'=>e=.returned (.tuple #[.int .i64 (Yr5 k p).1,.int .i64 (Yr5 k p).2])∧w=w':=by
 have c:=Yed k w;have hv:(Yft k).tdiv 2=Yft k / 2∧(Yfs k).tdiv 2=Yfs k / 2:=by
  rcases Yb0 k with rfl|rfl|rfl|rfl|rfl|rfl|⟨_,hv⟩
  case _|_|_|_|_|_=>exact⟨rfl,rfl⟩
  unfold Yft Yfs;rw[hv];exact⟨rfl,rfl⟩
 have hw:IntKind.i64.wrap (Yft k / 2)=Yft k / 2∧IntKind.i64.wrap (Yfs k / 2)=Yfs k / 2:=by
  rcases Yb0 k with rfl|rfl|rfl|rfl|rfl|rfl|⟨_,hv⟩
  case _|_|_|_|_|_=>exact⟨rfl,rfl⟩
  unfold Yft Yfs;rw[hv];exact⟨rfl,rfl⟩
 obtain⟨v1,v2⟩:=hv;obtain⟨v3,v4⟩:=hw;unfold Yr5;generalize Yft k / 2=a2 at v1 v3 ⊢;generalize Yfs k / 2=b2 at v2 v4 ⊢;generalize Yft k=a at c v1 ⊢;generalize Yfs k=b at c v2 ⊢;by_cases h0:p=0
 ·subst h0
  go_enter Tryd.func26,Tryd.ntmps26
  go_wp2_with (first|(with_reducible refine c.mono ?_;rintro e w1 ⟨rfl,rfl⟩))
  go_ret2
  exact⟨rfl,rfl⟩
 by_cases h1:p=1
 ·subst h1
  go_enter Tryd.func26,Tryd.ntmps26
  go_wp2_with (first|(with_reducible refine c.mono ?_;rintro e w1 ⟨rfl,rfl⟩))
  go_ret2
  exact⟨rfl,rfl⟩
 by_cases h2:p=2
 ·subst h2
  go_enter Tryd.func26,Tryd.ntmps26
  go_wp2_with (first|(with_reducible refine c.mono ?_;rintro e w1 ⟨rfl,rfl⟩))
  go_ret2
  exact⟨rfl,rfl⟩
 rw[if_neg h0,if_neg (by omega)];have t0:(p==0)=false:=by simpa using h0
 have t1:(p==1)=false:=by simpa using h1
 have t2:(p==2)=false:=by simpa using h2
 clear h0 h1 h2
 go_enter Tryd.func26,Tryd.ntmps26
 go_wp2_with (first|(with_reducible refine c.mono ?_;rintro e w1 ⟨rfl,rfl⟩))
 go_ret2
 exact⟨rfl,rfl⟩
end Go.Proofs.YtdnjefldijjgdaaDoor
namespace Go.Proofs.YtdnjefldijjgdaaDoor
def acr (k:Int):Nat:=(Ymr k).toNat
def dow (k:Int):Nat:=(Yms k).toNat
def wid (k:Int)(p:Nat):Nat:=if p=0 then 16*acr k else 8*acr k
def hei (k:Int)(p:Nat):Nat:=if p=0 then 16*dow k else 8*dow k
def siz (k:Int)(p:Nat):Nat:=wid k p*hei k p
def Ybh (k:Int):Nat:=acr k*dow k
theorem Yb6 (k:Int):(acr k:Int)=Ymr k∧(dow k:Int)=Yms k∧Yft k=16*(acr k:Int)∧Yfs k=16*(dow k:Int)∧acr k≤88∧dow k≤72:=by
 rcases Yb0 k with rfl|rfl|rfl|rfl|rfl|rfl|⟨h,hv⟩
 case _|_|_|_|_|_=>decide +kernel
 unfold acr dow Ymr Yms Yft Yfs;rw[hv]
 decide +kernel
theorem Yod {k:Int}(h:Yc4 k=false):acr k=0∧dow k=0:=by
 rcases Yb0 k with rfl|rfl|rfl|rfl|rfl|rfl|⟨_,hv⟩
 case _|_|_|_|_|_=>cases h
 unfold acr dow Ymr Yms Yft Yfs;rw[hv];exact⟨rfl,rfl⟩
theorem Yoe {k:Int}(h:Yc4 k=true):0<acr k∧0<dow k:=by
 rcases Yb0 k with rfl|rfl|rfl|rfl|rfl|rfl|⟨h2,_⟩
 case _|_|_|_|_|_=>decide +kernel
 rw[h] at h2;cases h2
theorem Ykr {k:Int}(h:Yc4 k=false):Ybh k=0:=by
 unfold Ybh;rw[(Yod h).1,Nat.zero_mul]
theorem Yeb (k:Int):Ybh k≤6336:=Nat.mul_le_mul (Yb6 k).2.2.2.2.1 (Yb6 k).2.2.2.2.2
theorem Yma {k:Int}{n:Nat}(h:n<Ybh k):Yc4 k=true:=by
 cases hq:Yc4 k with
 |true=>rfl
 |false=>rw[Ykr hq] at h;cases h
theorem Yi5 (k:Int)(p:Nat)(hp:p<3):Yr5 k (p:Int)=((wid k p:Int),(hei k p:Int)):=by
 obtain⟨_,_,h3,h4,_⟩:=Yb6 k;unfold Yr5 wid hei
 match p,hp with
 |0,_=>simp[h3,h4]
 |1,_=>simp[h3,h4];omega
 |2,_=>simp[h3,h4];omega
theorem Yd3 (k:Int)(p:Nat):wid k p≤1408∧hei k p≤1152:=by
 have:=Yb6 k;unfold wid hei
 split <;> omega
theorem Yex (k:Int)(p:Nat):siz k p≤1622016:=Nat.mul_le_mul (Yd3 k p).1 (Yd3 k p).2
theorem Yp8 {k:Int}(h:Yc4 k=true)(p:Nat):0<siz k p:=by
 have:=Yoe h;refine Nat.mul_pos ?_ ?_
 ·unfold wid;split <;> omega
 ·unfold hei;split <;> omega
def plc (b:Nat):Nat:=if b<4 then 0 else b-3
def col (k:Int)(n b:Nat):Nat:=if b<4 then 2*(n%acr k)+b%2 else n%acr k
def lin (k:Int)(n b:Nat):Nat:=if b<4 then 2*(n / acr k)+b / 2 else n / acr k
def Ymu (k:Int)(n b:Nat):Nat:=8*(lin k n b*wid k (plc b)+col k n b)
def pos (k:Int)(n b i:Nat):Nat:=Ymu k n b+i / 8*wid k (plc b)+i%8
theorem Yd2 {b:Nat}(h:b<6):plc b<3:=by unfold plc;split <;> omega
theorem Ybw {k:Int}{n:Nat}(h:n<Ybh k):0<acr k∧n%acr k<acr k∧n / acr k<dow k:=by
 have h0:0<acr k:=by
  rcases Nat.eq_zero_or_pos (acr k) with h1|h1
  ·unfold Ybh at h;rw[h1,Nat.zero_mul] at h;cases h
  ·exact h1
 exact⟨h0,Nat.mod_lt _ h0,Nat.div_lt_of_lt_mul h⟩
theorem Ygv {k:Int}{n b:Nat}(h:n<Ybh k)(hb:b<6):8*col k n b+8≤wid k (plc b):=by
 obtain⟨_,h2,_⟩:=Ybw h;unfold col wid plc;by_cases h4:b<4
 ·simp only[if_pos h4,if_true];omega
 ·simp only[if_neg h4,if_neg (show ¬ b-3=0 by omega)];omega
theorem Yg1 {k:Int}{n b:Nat}(h:n<Ybh k)(hb:b<6):8*lin k n b+8≤hei k (plc b):=by
 obtain⟨_,_,h2⟩:=Ybw h;unfold lin hei plc;by_cases h4:b<4
 ·simp only[if_pos h4,if_true];omega
 ·simp only[if_neg h4,if_neg (show ¬ b-3=0 by omega)];omega
theorem Yhu (k:Int)(n b y:Nat):Ymu k n b+y*wid k (plc b)=(8*lin k n b+y)*wid k (plc b)+8*col k n b:=by
 unfold Ymu;rw[Nat.add_mul,Nat.mul_add,Nat.mul_assoc];omega
theorem Ym6 {k:Int}{n b y:Nat}(h:n<Ybh k)(hb:b<6)(hy:y<8):Ymu k n b+y*wid k (plc b)+8≤siz k (plc b):=by
 have h1:=Ygv h hb;have h2:=Yg1 h hb;rw[Yhu];have h3:(8*lin k n b+y+1)*wid k (plc b)≤hei k (plc b)*wid k (plc b):=Nat.mul_le_mul_right _ (by omega);rw[Nat.succ_mul] at h3;unfold siz;rw[Nat.mul_comm (wid k (plc b))];omega
theorem Ypq (k:Int)(n b i:Nat):(8*lin k n b+i / 8)*wid k (plc b)+(8*col k n b+i%8)=pos k n b i:=by
 unfold pos;rw[Yhu];omega
def Ydd (k:Int)(n:Nat)(f:Nat→Nat→Int):Nat→Int:=fun s=>f (plc (s / 64)) (pos k n (s / 64) (s%64))
end Go.Proofs.YtdnjefldijjgdaaDoor
namespace Go.Proofs.YtdnjefldijjgdaaDoor
open Go.RowKit
def Yfu (k n:Int):Bool:=decide (0≤n)&&decide (n<(Ybh k:Int))
theorem Yct {k n:Int}:Yfu k n=true↔0≤n∧n.toNat<Ybh k:=by
 unfold Yfu;simp;omega
def Ybv (c m:Nat)(v:Int):Bool:=decide (-32≤v∧v≤31)&&decide (0≤32*(c:Int)+v∧32*(c:Int)+v+30≤32*(m:Int)-2)
def Yj1 (k n a b:Int):Bool:=Yfu k n&&(Ybv (n.toNat%acr k) (acr k) a&&Ybv (n.toNat / acr k) (dow k) b)
theorem Yb5 {c m:Nat}{v:Int}:Ybv c m v=true↔(-32≤v∧v≤31)∧0≤32*(c:Int)+v∧32*(c:Int)+v+30≤32*(m:Int)-2:=by simp[Ybv]
theorem Yew {k n a b:Int}:Yj1 k n a b=true↔(0≤n∧n.toNat<Ybh k)∧Ybv (n.toNat%acr k) (acr k) a=true∧Ybv (n.toNat / acr k) (dow k) b=true:=by
 unfold Yj1;rw[Bool.and_eq_true,Bool.and_eq_true,Yct]
end Go.Proofs.YtdnjefldijjgdaaDoor