/- No condition. -/
import Derived.Test.YtdnjefldijjgdaaDoorRebuildSumsMb
import Derived.Test.YtdnjefldijjgdaaDoorRows
import Derived.WalkKit
import Derived.WalkMore
import Derived.ProofKit
namespace Go.Proofs.YtdnjefldijjgdaaDoor
open Go.RowKit
set_option maxHeartbeats 1000000 in
theorem Ydw (k:Int)(w:World):Calls Tryd.prog 35 #[.int .i64 k] w fun e w'=>e=.returned (.tuple #[.int .i64 (Yfn k),.int .i64 (Yfm k),.bool (Yev k)])∧w=w':=by
 rcases Ycb k with rfl|rfl|rfl|rfl|rfl|rfl|⟨h,hv⟩
 case _|_|_|_|_|_=>
  go_enter Tryd.func35,Tryd.ntmps35
  go_wp2
  go_ret3
  exact⟨rfl,rfl⟩
 obtain⟨t1,t2,t3,t4,t5,t6⟩:=Ynr h;unfold Yfn Yfm;rw[h,hv];clear h hv
 go_enter Tryd.func35,Tryd.ntmps35
 go_wp2
 go_ret3
 exact⟨rfl,rfl⟩
def Ymw (k:Int):Int:=Yfn k / 16
def Ymx (k:Int):Int:=Yfm k / 16
set_option maxHeartbeats 1000000 in
theorem Ydc (k:Int)(w:World):Calls Tryd.prog 25 #[.int .i64 k] w fun e w'=>e=.returned (.tuple #[.int .i64 (Ymw k),.int .i64 (Ymx k)])∧w=w':=by
 have c:=Ydw k w;have hv:(Yfn k).tdiv 16=Ymw k∧(Yfm k).tdiv 16=Ymx k:=by
  rcases Ycb k with rfl|rfl|rfl|rfl|rfl|rfl|⟨_,hv⟩
  case _|_|_|_|_|_=>exact⟨rfl,rfl⟩
  unfold Ymw Ymx Yfn Yfm;rw[hv];exact⟨rfl,rfl⟩
 have hw:IntKind.i64.wrap (Ymw k)=Ymw k∧IntKind.i64.wrap (Ymx k)=Ymx k:=by
  rcases Ycb k with rfl|rfl|rfl|rfl|rfl|rfl|⟨_,hv⟩
  case _|_|_|_|_|_=>exact⟨rfl,rfl⟩
  unfold Ymw Ymx Yfn Yfm;rw[hv];exact⟨rfl,rfl⟩
 obtain⟨v1,v2⟩:=hv;obtain⟨v3,v4⟩:=hw;generalize Yfn k=a at c v1;generalize Yfm k=b at c v2;generalize Ymw k=a2 at v1 v3 ⊢;generalize Ymx k=b2 at v2 v4 ⊢
 go_enter Tryd.func25,Tryd.ntmps25
 go_wp2_with (first|(with_reducible refine c.mono ?_;rintro e w1 ⟨rfl,rfl⟩))
 go_ret2
 exact⟨rfl,rfl⟩
def Yqh (k p:Int):Int×Int:=if p=0 then (Yfn k,Yfm k) else if p=1∨p=2 then (Yfn k / 2,Yfm k / 2) else (0,0)
theorem Yet (k p:Int)(w:World):Calls Tryd.prog 26 #[.int .i64 k,.int .i64 p] w fun e w'=>e=.returned (.tuple #[.int .i64 (Yqh k p).1,.int .i64 (Yqh k p).2])∧w=w':=by
 have c:=Ydw k w;have hv:(Yfn k).tdiv 2=Yfn k / 2∧(Yfm k).tdiv 2=Yfm k / 2:=by
  rcases Ycb k with rfl|rfl|rfl|rfl|rfl|rfl|⟨_,hv⟩
  case _|_|_|_|_|_=>exact⟨rfl,rfl⟩
  unfold Yfn Yfm;rw[hv];exact⟨rfl,rfl⟩
 have hw:IntKind.i64.wrap (Yfn k / 2)=Yfn k / 2∧IntKind.i64.wrap (Yfm k / 2)=Yfm k / 2:=by
  rcases Ycb k with rfl|rfl|rfl|rfl|rfl|rfl|⟨_,hv⟩
  case _|_|_|_|_|_=>exact⟨rfl,rfl⟩
  unfold Yfn Yfm;rw[hv];exact⟨rfl,rfl⟩
 obtain⟨v1,v2⟩:=hv;obtain⟨v3,v4⟩:=hw;unfold Yqh;generalize Yfn k / 2=a2 at v1 v3 ⊢;generalize Yfm k / 2=b2 at v2 v4 ⊢;generalize Yfn k=a at c v1 ⊢;generalize Yfm k=b at c v2 ⊢;by_cases h0:p=0
 ·subst h0
  go_enter Tryd.func26,Tryd.ntmps26
  go_wp2_with (first|(with_reducible refine c.mono ?_;rintro e w1 ⟨rfl,rfl⟩))
  go_ret2
  exact⟨rfl,rfl⟩
 by_cases h1:p=1
 ·subst h1
  go_enter Tryd.func26,Tryd.ntmps26
  go_wp2_with (first|(with_reducible refine c.mono ?_;rintro e w1 ⟨rfl,rfl⟩))
  go_ret2
  exact⟨rfl,rfl⟩
 by_cases h2:p=2
 ·subst h2
  go_enter Tryd.func26,Tryd.ntmps26
  go_wp2_with (first|(with_reducible refine c.mono ?_;rintro e w1 ⟨rfl,rfl⟩))
  go_ret2
  exact⟨rfl,rfl⟩
 rw[if_neg h0,if_neg (by omega)];have t0:(p==0)=false:=by simpa using h0
 have t1:(p==1)=false:=by simpa using h1
 have t2:(p==2)=false:=by simpa using h2
 clear h0 h1 h2
 go_enter Tryd.func26,Tryd.ntmps26
 go_wp2_with (first|(with_reducible refine c.mono ?_;rintro e w1 ⟨rfl,rfl⟩))
 go_ret2
 exact⟨rfl,rfl⟩
end Go.Proofs.YtdnjefldijjgdaaDoor
namespace Go.Proofs.YtdnjefldijjgdaaDoor
def acr (k:Int):Nat:=(Ymw k).toNat
def dow (k:Int):Nat:=(Ymx k).toNat
def wid (k:Int)(p:Nat):Nat:=if p=0 then 16*acr k else 8*acr k
def hei (k:Int)(p:Nat):Nat:=if p=0 then 16*dow k else 8*dow k
def siz (k:Int)(p:Nat):Nat:=wid k p*hei k p
def Ycs (k:Int):Nat:=acr k*dow k
theorem Ych (k:Int):(acr k:Int)=Ymw k∧(dow k:Int)=Ymx k∧Yfn k=16*(acr k:Int)∧Yfm k=16*(dow k:Int)∧acr k≤88∧dow k≤72:=by
 rcases Ycb k with rfl|rfl|rfl|rfl|rfl|rfl|⟨h,hv⟩
 case _|_|_|_|_|_=>decide +kernel
 unfold acr dow Ymw Ymx Yfn Yfm;rw[hv]
 decide +kernel
theorem Yjo (k:Int):Ycs k≤6336:=Nat.mul_le_mul (Ych k).2.2.2.2.1 (Ych k).2.2.2.2.2
theorem Ylh (k:Int)(p:Nat)(hp:p<3):Yqh k (p:Int)=((wid k p:Int),(hei k p:Int)):=by
 obtain⟨_,_,h3,h4,_⟩:=Ych k;unfold Yqh wid hei
 match p,hp with
 |0,_=>simp[h3,h4]
 |1,_=>simp[h3,h4];omega
 |2,_=>simp[h3,h4];omega
theorem Yeg (k:Int)(p:Nat):wid k p≤1408∧hei k p≤1152:=by
 have:=Ych k;unfold wid hei
 split <;> omega
theorem Yja (k:Int)(p:Nat):siz k p≤1622016:=Nat.mul_le_mul (Yeg k p).1 (Yeg k p).2
def plc (b:Nat):Nat:=if b<4 then 0 else b-3
def col (k:Int)(n b:Nat):Nat:=if b<4 then 2*(n%acr k)+b%2 else n%acr k
def lin (k:Int)(n b:Nat):Nat:=if b<4 then 2*(n / acr k)+b / 2 else n / acr k
theorem Yob {b:Nat}(h:b<6):plc b<3:=by unfold plc;split <;> omega
theorem Yca {k:Int}{n:Nat}(h:n<Ycs k):0<acr k∧n%acr k<acr k∧n / acr k<dow k:=by
 have h0:0<acr k:=by
  rcases Nat.eq_zero_or_pos (acr k) with h1|h1
  ·unfold Ycs at h;rw[h1,Nat.zero_mul] at h;cases h
  ·exact h1
 exact⟨h0,Nat.mod_lt _ h0,Nat.div_lt_of_lt_mul h⟩
theorem Ynj {k:Int}{n b:Nat}(h:n<Ycs k)(hb:b<6):8*col k n b+8≤wid k (plc b):=by
 obtain⟨_,h2,_⟩:=Yca h;unfold col wid plc;by_cases h4:b<4
 ·simp only[if_pos h4,if_true];omega
 ·simp only[if_neg h4,if_neg (show ¬ b-3=0 by omega)];omega
theorem Yny {k:Int}{n b:Nat}(h:n<Ycs k)(hb:b<6):8*lin k n b+8≤hei k (plc b):=by
 obtain⟨_,_,h2⟩:=Yca h;unfold lin hei plc;by_cases h4:b<4
 ·simp only[if_pos h4,if_true];omega
 ·simp only[if_neg h4,if_neg (show ¬ b-3=0 by omega)];omega
end Go.Proofs.YtdnjefldijjgdaaDoor
namespace Go.Proofs.YtdnjefldijjgdaaDoor
open Go.RowKit
def Ylk (k n:Int):Bool:=decide (0≤n)&&decide (n<(Ycs k:Int))
theorem Yge {k n:Int}:Ylk k n=true↔0≤n∧n.toNat<Ycs k:=by
 unfold Ylk;simp;omega
def Ybr (c m:Nat)(v:Int):Bool:=decide (-32≤v∧v≤31)&&decide (0≤32*(c:Int)+v∧32*(c:Int)+v+30≤32*(m:Int)-2)
def Ymz (k n a b:Int):Bool:=Ylk k n&&(Ybr (n.toNat%acr k) (acr k) a&&Ybr (n.toNat / acr k) (dow k) b)
theorem Yc2 {c m:Nat}{v:Int}:Ybr c m v=true↔(-32≤v∧v≤31)∧0≤32*(c:Int)+v∧32*(c:Int)+v+30≤32*(m:Int)-2:=by simp[Ybr]
theorem Yi3 {k n a b:Int}:Ymz k n a b=true↔(0≤n∧n.toNat<Ycs k)∧Ybr (n.toNat%acr k) (acr k) a=true∧Ybr (n.toNat / acr k) (dow k) b=true:=by
 unfold Ymz;rw[Bool.and_eq_true,Bool.and_eq_true,Yge]
end Go.Proofs.YtdnjefldijjgdaaDoor