/- No condition. -/
import Derived.Test.YtdnjefldijjgdaaGreatDoorRebuildCellsMb
import Derived.Test.YtdnjefldijjgdaaGreatDoorRows
import Derived.WalkKit
import Derived.WalkMore
import Derived.ProofKit
namespace Go.Proofs.YtdnjefldijjgdaaGreatDoor
open Go.RowKit
set_option maxHeartbeats 1000000 in
theorem Yfb (k:Int)(w:World):Calls Tryz.prog 71 #[.int .i64 k] w fun e w'=>e=.returned (.tuple #[.int .i64 (Yda k),.int .i64 (Ydd k),.bool (Yed k)])∧w=w':=by
 rcases Ycp k with rfl|rfl|rfl|rfl|rfl|rfl|⟨h,hv⟩
 case _|_|_|_|_|_=>
  go_enter Tryz.func71,Tryz.ntmps71
  go_wp2
  go_ret3
  exact⟨rfl,rfl⟩
 obtain⟨t1,t2,t3,t4,t5,t6⟩:=Yq9 h;unfold Yda Ydd;rw[h,hv];clear h hv
 go_enter Tryz.func71,Tryz.ntmps71
 go_wp2
 go_ret3
 exact⟨rfl,rfl⟩
def Yor (k:Int):Int:=Yda k / 16
def Yos (k:Int):Int:=Ydd k / 16
set_option maxHeartbeats 1000000 in
theorem Yem (k:Int)(w:World):Calls Tryz.prog 45 #[.int .i64 k] w fun e w'=>e=.returned (.tuple #[.int .i64 (Yor k),.int .i64 (Yos k)])∧w=w':=by
 have c:=Yfb k w;have hv:(Yda k).tdiv 16=Yor k∧(Ydd k).tdiv 16=Yos k:=by
  rcases Ycp k with rfl|rfl|rfl|rfl|rfl|rfl|⟨_,hv⟩
  case _|_|_|_|_|_=>exact⟨rfl,rfl⟩
  unfold Yor Yos Yda Ydd;rw[hv];exact⟨rfl,rfl⟩
 have hw:IntKind.i64.wrap (Yor k)=Yor k∧IntKind.i64.wrap (Yos k)=Yos k:=by
  rcases Ycp k with rfl|rfl|rfl|rfl|rfl|rfl|⟨_,hv⟩
  case _|_|_|_|_|_=>exact⟨rfl,rfl⟩
  unfold Yor Yos Yda Ydd;rw[hv];exact⟨rfl,rfl⟩
 obtain⟨v1,v2⟩:=hv;obtain⟨v3,v4⟩:=hw;generalize Yda k=a at c v1;generalize Ydd k=b at c v2;generalize Yor k=a2 at v1 v3 ⊢;generalize Yos k=b2 at v2 v4 ⊢
 go_enter Tryz.func45,Tryz.ntmps45
 go_wp2_with (first|(with_reducible refine c.mono ?_;rintro e w1 ⟨rfl,rfl⟩))
 go_ret2
 exact⟨rfl,rfl⟩
def Ytz (k p:Int):Int×Int:=if p=0 then (Yda k,Ydd k) else if p=1∨p=2 then (Yda k / 2,Ydd k / 2) else (0,0)
theorem Ygd (k p:Int)(w:World):Calls Tryz.prog 72 #[.int .i64 k,.int .i64 p] w fun e w'=>e=.returned (.tuple #[.int .i64 (Ytz k p).1,.int .i64 (Ytz k p).2])∧w=w':=by
 have c:=Yfb k w;have hv:(Yda k).tdiv 2=Yda k / 2∧(Ydd k).tdiv 2=Ydd k / 2:=by
  rcases Ycp k with rfl|rfl|rfl|rfl|rfl|rfl|⟨_,hv⟩
  case _|_|_|_|_|_=>exact⟨rfl,rfl⟩
  unfold Yda Ydd;rw[hv];exact⟨rfl,rfl⟩
 have hw:IntKind.i64.wrap (Yda k / 2)=Yda k / 2∧IntKind.i64.wrap (Ydd k / 2)=Ydd k / 2:=by
  rcases Ycp k with rfl|rfl|rfl|rfl|rfl|rfl|⟨_,hv⟩
  case _|_|_|_|_|_=>exact⟨rfl,rfl⟩
  unfold Yda Ydd;rw[hv];exact⟨rfl,rfl⟩
 obtain⟨v1,v2⟩:=hv;obtain⟨v3,v4⟩:=hw;unfold Ytz;generalize Yda k / 2=a2 at v1 v3 ⊢;generalize Ydd k / 2=b2 at v2 v4 ⊢;generalize Yda k=a at c v1 ⊢;generalize Ydd k=b at c v2 ⊢;by_cases h0:p=0
 ·subst h0
  go_enter Tryz.func72,Tryz.ntmps72
  go_wp2_with (first|(with_reducible refine c.mono ?_;rintro e w1 ⟨rfl,rfl⟩))
  go_ret2
  exact⟨rfl,rfl⟩
 by_cases h1:p=1
 ·subst h1
  go_enter Tryz.func72,Tryz.ntmps72
  go_wp2_with (first|(with_reducible refine c.mono ?_;rintro e w1 ⟨rfl,rfl⟩))
  go_ret2
  exact⟨rfl,rfl⟩
 by_cases h2:p=2
 ·subst h2
  go_enter Tryz.func72,Tryz.ntmps72
  go_wp2_with (first|(with_reducible refine c.mono ?_;rintro e w1 ⟨rfl,rfl⟩))
  go_ret2
  exact⟨rfl,rfl⟩
 rw[if_neg h0,if_neg (by omega)];have t0:(p==0)=false:=by simpa using h0
 have t1:(p==1)=false:=by simpa using h1
 have t2:(p==2)=false:=by simpa using h2
 clear h0 h1 h2
 go_enter Tryz.func72,Tryz.ntmps72
 go_wp2_with (first|(with_reducible refine c.mono ?_;rintro e w1 ⟨rfl,rfl⟩))
 go_ret2
 exact⟨rfl,rfl⟩
theorem Yh9 (w:World)(o1 o2:Obj):((w.alloc o1).alloc o2).heap[w.heap.size]? =some o1:=by
 show ((w.heap.push o1).push o2)[w.heap.size]? =some o1;rw[Array.getElem?_push,if_neg (by simp)];simp
theorem Ygc (w:World)(o1 o2:Obj):Below w.heap.size w ((w.alloc o1).alloc o2):=((Below.refl _ w).alloc (Nat.le_refl _) _).alloc (by simp) _
def Yqe (k:Int):Array Value:=#[.int .i64 (Yda k),.int .i64 (Ydd k),.int .i64 (Yjf k),.int .i64 (Yje k)]
set_option maxHeartbeats 2000000 in
theorem Yc3 (k:Int)(w:World):Calls Tryz.prog 19 #[.int .i64 k] w fun e w'=>e=.returned (.agg (Yqe k))∧Below w.heap.size w w':=by
 by_cases hk:k<0∨6<k
 ·have hv:Yqe k=#[.int .i64 0,.int .i64 0,.int .i64 0,.int .i64 0]:=by
   have hf:Ysl k=(0,0,0,0):=by
    unfold Ysl;rw[if_neg (by omega),if_neg (by omega),if_neg (by omega),if_neg (by omega),if_neg (by omega),if_neg (by omega)]
   unfold Yqe Yda Ydd Yjf Yje;rw[hf]
  rw[hv];clear hv;by_cases hn:k<0
  ·have t0:decide (k<0)=true:=by simpa using hn
   clear hk hn
   go_enter Tryz.func19,Tryz.ntmps19
   go_wp2
   exact bodyPost_ret (results_cell_row rfl _ _ w.heap.size 54 _ (0,0) _ rfl (Yh9 w _ _) Tryz.underlying54 rfl (by kernel_rfl)) rfl ⟨rfl,Ygc w _ _⟩
  ·have t0:decide (k<0)=false:=by simpa using hn
   have t1:decide (7≤k)=true:=by simp;omega
   clear hk hn
   go_enter Tryz.func19,Tryz.ntmps19
   go_wp2
   exact bodyPost_ret (results_cell_row rfl _ _ w.heap.size 54 _ (0,0) _ rfl (Yh9 w _ _) Tryz.underlying54 rfl (by kernel_rfl)) rfl ⟨rfl,Ygc w _ _⟩
 have hk2:k=0∨k=1∨k=2∨k=3∨k=4∨k=5∨k=6:=by omega
 clear hk;rcases hk2 with rfl|rfl|rfl|rfl|rfl|rfl|rfl
 all_goals
  go_enter Tryz.func19,Tryz.ntmps19
  go_wp2
  exact bodyPost_ret (results_cell_row rfl _ _ w.heap.size 54 _ (0,0) _ rfl (Yh9 w _ _) Tryz.underlying54 rfl (by kernel_rfl)) rfl ⟨rfl,Ygc w _ _⟩
end Go.Proofs.YtdnjefldijjgdaaGreatDoor
namespace Go.Proofs.YtdnjefldijjgdaaGreatDoor
def acr (k:Int):Nat:=(Yor k).toNat
def dow (k:Int):Nat:=(Yos k).toNat
def wid (k:Int)(p:Nat):Nat:=if p=0 then 16*acr k else 8*acr k
def hei (k:Int)(p:Nat):Nat:=if p=0 then 16*dow k else 8*dow k
def siz (k:Int)(p:Nat):Nat:=wid k p*hei k p
def Ybr (k:Int):Nat:=acr k*dow k
theorem Ybu (k:Int):(acr k:Int)=Yor k∧(dow k:Int)=Yos k∧Yda k=16*(acr k:Int)∧Ydd k=16*(dow k:Int)∧acr k≤88∧dow k≤72:=by
 rcases Ycp k with rfl|rfl|rfl|rfl|rfl|rfl|⟨h,hv⟩
 case _|_|_|_|_|_=>decide +kernel
 unfold acr dow Yor Yos Yda Ydd;rw[hv]
 decide +kernel
theorem Yqh {k:Int}(h:Yed k=false):acr k=0∧dow k=0:=by
 rcases Ycp k with rfl|rfl|rfl|rfl|rfl|rfl|⟨_,hv⟩
 case _|_|_|_|_|_=>cases h
 unfold acr dow Yor Yos Yda Ydd;rw[hv];exact⟨rfl,rfl⟩
theorem Yqi {k:Int}(h:Yed k=true):0<acr k∧0<dow k:=by
 rcases Ycp k with rfl|rfl|rfl|rfl|rfl|rfl|⟨h2,_⟩
 case _|_|_|_|_|_=>decide +kernel
 rw[h] at h2;cases h2
theorem Ye9 (k:Int):Ybr k≤6336:=Nat.mul_le_mul (Ybu k).2.2.2.2.1 (Ybu k).2.2.2.2.2
theorem Yot (k:Int)(p:Nat)(hp:p<3):Ytz k (p:Int)=((wid k p:Int),(hei k p:Int)):=by
 obtain⟨_,_,h3,h4,_⟩:=Ybu k;unfold Ytz wid hei
 match p,hp with
 |0,_=>simp[h3,h4]
 |1,_=>simp[h3,h4];omega
 |2,_=>simp[h3,h4];omega
theorem Yez (k:Int)(p:Nat):wid k p≤1408∧hei k p≤1152:=by
 have:=Ybu k;unfold wid hei
 split <;> omega
theorem Yf1 (k:Int)(p:Nat):siz k p≤1622016:=Nat.mul_le_mul (Yez k p).1 (Yez k p).2
def plc (b:Nat):Nat:=if b<4 then 0 else b-3
def col (k:Int)(n b:Nat):Nat:=if b<4 then 2*(n%acr k)+b%2 else n%acr k
def lin (k:Int)(n b:Nat):Nat:=if b<4 then 2*(n / acr k)+b / 2 else n / acr k
def fst8 (k:Int)(n b:Nat):Nat:=8*(lin k n b*wid k (plc b)+col k n b)
def pos (k:Int)(n b i:Nat):Nat:=fst8 k n b+i / 8*wid k (plc b)+i%8
theorem Yl4 {b:Nat}(h:b<6):plc b<3:=by unfold plc;split <;> omega
theorem Yc2 {k:Int}{n:Nat}(h:n<Ybr k):0<acr k∧n%acr k<acr k∧n / acr k<dow k:=by
 have h0:0<acr k:=by
  rcases Nat.eq_zero_or_pos (acr k) with h1|h1
  ·unfold Ybr at h;rw[h1,Nat.zero_mul] at h;cases h
  ·exact h1
 exact⟨h0,Nat.mod_lt _ h0,Nat.div_lt_of_lt_mul h⟩
theorem Ylq {k:Int}{n b:Nat}(h:n<Ybr k)(hb:b<6):8*col k n b+8≤wid k (plc b):=by
 obtain⟨_,h2,_⟩:=Yc2 h;unfold col wid plc;by_cases h4:b<4
 ·simp only[if_pos h4,if_true];omega
 ·simp only[if_neg h4,if_neg (show ¬ b-3=0 by omega)];omega
theorem Yly {k:Int}{n b:Nat}(h:n<Ybr k)(hb:b<6):8*lin k n b+8≤hei k (plc b):=by
 obtain⟨_,_,h2⟩:=Yc2 h;unfold lin hei plc;by_cases h4:b<4
 ·simp only[if_pos h4,if_true];omega
 ·simp only[if_neg h4,if_neg (show ¬ b-3=0 by omega)];omega
end Go.Proofs.YtdnjefldijjgdaaGreatDoor
namespace Go.Proofs.YtdnjefldijjgdaaGreatDoor
open Go.RowKit
def Yjk (k n:Int):Bool:=decide (0≤n)&&decide (n<(Ybr k:Int))
theorem Ydg {k n:Int}:Yjk k n=true↔0≤n∧n.toNat<Ybr k:=by
 unfold Yjk;simp;omega
def Ybe (c m:Nat)(v:Int):Bool:=decide (-32≤v∧v≤31)&&decide (0≤32*(c:Int)+v∧32*(c:Int)+v+30≤32*(m:Int)-2)
def Ygj (k n a b:Int):Bool:=Yjk k n&&(Ybe (n.toNat%acr k) (acr k) a&&Ybe (n.toNat / acr k) (dow k) b)
theorem Yc5 {c m:Nat}{v:Int}:Ybe c m v=true↔(-32≤v∧v≤31)∧0≤32*(c:Int)+v∧32*(c:Int)+v+30≤32*(m:Int)-2:=by simp[Ybe]
theorem Yfy {k n a b:Int}:Ygj k n a b=true↔(0≤n∧n.toNat<Ybr k)∧Ybe (n.toNat%acr k) (acr k) a=true∧Ybe (n.toNat / acr k) (dow k) b=true:=by
 unfold Ygj;rw[Bool.and_eq_true,Bool.and_eq_true,Ydg]
end Go.Proofs.YtdnjefldijjgdaaGreatDoor