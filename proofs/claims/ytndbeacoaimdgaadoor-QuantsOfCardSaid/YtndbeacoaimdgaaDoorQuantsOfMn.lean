/- No condition. -/
import Derived.Test.YtndbeacoaimdgaaDoorQuantsOfMb
import Derived.Test.YtndbeacoaimdgaaDoorRows
import Derived.WalkKit
import Derived.WalkMore
import Derived.ProofKit
namespace Go.Proofs.YtndbeacoaimdgaaDoor
open Go.RowKit
set_option maxHeartbeats 1000000 in
theorem Yg2 (k:Int)(w:World):Calls Tryd.prog 69 #[.int .i64 k] w fun e w'=>e=.returned (.tuple #[.int .i64 (Yd6 k),.int .i64 (Yd5 k),.bool (Yc3 k)])∧w=w':=by
 rcases Ybt k with rfl|rfl|rfl|rfl|rfl|rfl|⟨h,hv⟩
 case _|_|_|_|_|_=>
  go_enter Tryd.func69,Tryd.ntmps69
  go_wp2
  go_ret3
  exact⟨rfl,rfl⟩
 obtain⟨t1,t2,t3,t4,t5,t6⟩:=Ykp h;unfold Yd6 Yd5;rw[h,hv];clear h hv
 go_enter Tryd.func69,Tryd.ntmps69
 go_wp2
 go_ret3
 exact⟨rfl,rfl⟩
set_option maxHeartbeats 1000000 in
theorem Yg1 (k:Int)(w:World):Calls Tryd.prog 38 #[.int .i64 k] w fun e w'=>e=.returned (.tuple #[.int .i64 (Ye0 k),.int .i64 (Yfd k)])∧w=w':=by
 rcases Ybt k with rfl|rfl|rfl|rfl|rfl|rfl|⟨h,hv⟩
 case _|_|_|_|_|_=>
  go_enter Tryd.func38,Tryd.ntmps38
  go_wp2
  go_ret2
  exact⟨rfl,rfl⟩
 obtain⟨t1,t2,t3,t4,t5,t6⟩:=Ykp h;unfold Ye0 Yfd;rw[hv];clear h hv
 go_enter Tryd.func38,Tryd.ntmps38
 go_wp2
 go_ret2
 exact⟨rfl,rfl⟩
def Yko (k:Int):Int:=Yd6 k / 16
def Ymj (k:Int):Int:=Yd5 k / 16
set_option maxHeartbeats 1000000 in
theorem Yd0 (k:Int)(w:World):Calls Tryd.prog 54 #[.int .i64 k] w fun e w'=>e=.returned (.tuple #[.int .i64 (Yko k),.int .i64 (Ymj k)])∧w=w':=by
 have c:=Yg2 k w;have hv:(Yd6 k).tdiv 16=Yko k∧(Yd5 k).tdiv 16=Ymj k:=by
  rcases Ybt k with rfl|rfl|rfl|rfl|rfl|rfl|⟨_,hv⟩
  case _|_|_|_|_|_=>exact⟨rfl,rfl⟩
  unfold Yko Ymj Yd6 Yd5;rw[hv];exact⟨rfl,rfl⟩
 have hw:IntKind.i64.wrap (Yko k)=Yko k∧IntKind.i64.wrap (Ymj k)=Ymj k:=by
  rcases Ybt k with rfl|rfl|rfl|rfl|rfl|rfl|⟨_,hv⟩
  case _|_|_|_|_|_=>exact⟨rfl,rfl⟩
  unfold Yko Ymj Yd6 Yd5;rw[hv];exact⟨rfl,rfl⟩
 obtain⟨v1,v2⟩:=hv;obtain⟨v3,v4⟩:=hw;generalize Yd6 k=a at c v1;generalize Yd5 k=b at c v2;generalize Yko k=a2 at v1 v3 ⊢;generalize Ymj k=b2 at v2 v4 ⊢
 go_enter Tryd.func54,Tryd.ntmps54
 go_wp2_with (first|(with_reducible refine c.mono ?_;rintro e w1 ⟨rfl,rfl⟩))
 go_ret2
 exact⟨rfl,rfl⟩
theorem Yhr (w:World)(o1 o2:Obj):((w.alloc o1).alloc o2).heap[w.heap.size]? =some o1:=by
 show ((w.heap.push o1).push o2)[w.heap.size]? =some o1;rw[Array.getElem?_push,if_neg (by simp)];simp
theorem Yfy (w:World)(o1 o2:Obj):Below w.heap.size w ((w.alloc o1).alloc o2):=((Below.refl _ w).alloc (Nat.le_refl _) _).alloc (by simp) _
def Ync (k:Int):Array Value:=#[.int .i64 (Yd6 k),.int .i64 (Yd5 k),.int .i64 (Ye0 k),.int .i64 (Yfd k)]
set_option maxHeartbeats 2000000 in
theorem Ycs (k:Int)(w:World):Calls Tryd.prog 15 #[.int .i64 k] w fun e w'=>e=.returned (.agg (Ync k))∧Below w.heap.size w w':=by
 by_cases hk:k<0∨6<k
 ·have hv:Ync k=#[.int .i64 0,.int .i64 0,.int .i64 0,.int .i64 0]:=by
   have hf:Yp0 k=(0,0,0,0):=by
    unfold Yp0;rw[if_neg (by omega),if_neg (by omega),if_neg (by omega),if_neg (by omega),if_neg (by omega),if_neg (by omega)]
   unfold Ync Yd6 Yd5 Ye0 Yfd;rw[hf]
  rw[hv];clear hv;by_cases hn:k<0
  ·have t0:decide (k<0)=true:=by simpa using hn
   clear hk hn
   go_enter Tryd.func15,Tryd.ntmps15
   go_wp2
   exact bodyPost_ret (results_cell_row rfl _ _ w.heap.size 45 _ (0,0) _ rfl (Yhr w _ _) Tryd.underlying45 rfl (by kernel_rfl)) rfl ⟨rfl,Yfy w _ _⟩
  ·have t0:decide (k<0)=false:=by simpa using hn
   have t1:decide (7≤k)=true:=by simp;omega
   clear hk hn
   go_enter Tryd.func15,Tryd.ntmps15
   go_wp2
   exact bodyPost_ret (results_cell_row rfl _ _ w.heap.size 45 _ (0,0) _ rfl (Yhr w _ _) Tryd.underlying45 rfl (by kernel_rfl)) rfl ⟨rfl,Yfy w _ _⟩
 have hk2:k=0∨k=1∨k=2∨k=3∨k=4∨k=5∨k=6:=by omega
 clear hk;rcases hk2 with rfl|rfl|rfl|rfl|rfl|rfl|rfl
 all_goals
  go_enter Tryd.func15,Tryd.ntmps15
  go_wp2
  exact bodyPost_ret (results_cell_row rfl _ _ w.heap.size 45 _ (0,0) _ rfl (Yhr w _ _) Tryd.underlying45 rfl (by kernel_rfl)) rfl ⟨rfl,Yfy w _ _⟩
end Go.Proofs.YtndbeacoaimdgaaDoor
namespace Go.Proofs.YtndbeacoaimdgaaDoor
def acr (k:Int):Nat:=(Yko k).toNat
def dow (k:Int):Nat:=(Ymj k).toNat
def Ybv (k:Int):Nat:=acr k*dow k
theorem Ycd (k:Int):(acr k:Int)=Yko k∧(dow k:Int)=Ymj k∧Yd6 k=16*(acr k:Int)∧Yd5 k=16*(dow k:Int)∧acr k≤88∧dow k≤72:=by
 rcases Ybt k with rfl|rfl|rfl|rfl|rfl|rfl|⟨h,hv⟩
 case _|_|_|_|_|_=>decide +kernel
 unfold acr dow Yko Ymj Yd6 Yd5;rw[hv]
 decide +kernel
theorem Yol {k:Int}(h:Yc3 k=false):acr k=0∧dow k=0:=by
 rcases Ybt k with rfl|rfl|rfl|rfl|rfl|rfl|⟨_,hv⟩
 case _|_|_|_|_|_=>cases h
 unfold acr dow Yko Ymj Yd6 Yd5;rw[hv];exact⟨rfl,rfl⟩
theorem Yom {k:Int}(h:Yc3 k=true):0<acr k∧0<dow k:=by
 rcases Ybt k with rfl|rfl|rfl|rfl|rfl|rfl|⟨h2,_⟩
 case _|_|_|_|_|_=>decide +kernel
 rw[h] at h2;cases h2
theorem Ylh {k:Int}(h:Yc3 k=false):Ybv k=0:=by
 unfold Ybv;rw[(Yol h).1,Nat.zero_mul]
theorem Ygw (k:Int):Ybv k≤6336:=Nat.mul_le_mul (Ycd k).2.2.2.2.1 (Ycd k).2.2.2.2.2
theorem Ylg {k:Int}{n:Nat}(h:n<Ybv k):0<acr k∧n%acr k<acr k∧n / acr k<dow k:=by
 have h0:0<acr k:=by
  rcases Nat.eq_zero_or_pos (acr k) with h1|h1
  ·unfold Ybv at h;rw[h1,Nat.zero_mul] at h;cases h
  ·exact h1
 exact⟨h0,Nat.mod_lt _ h0,Nat.div_lt_of_lt_mul h⟩
end Go.Proofs.YtndbeacoaimdgaaDoor
namespace Go.Proofs.YtndbeacoaimdgaaDoor
open Go.RowKit
def Yoi (k n:Int):Bool:=decide (0≤n)&&decide (n<(Ybv k:Int))
theorem Yhs {k n:Int}:Yoi k n=true↔0≤n∧n.toNat<Ybv k:=by
 unfold Yoi;simp;omega
def Ybf (c m:Nat)(v:Int):Bool:=decide (-32≤v∧v≤31)&&decide (0≤32*(c:Int)+v∧32*(c:Int)+v+30≤32*(m:Int)-2)
def Ykt (k n a b:Int):Bool:=Yoi k n&&(Ybf (n.toNat%acr k) (acr k) a&&Ybf (n.toNat / acr k) (dow k) b)
end Go.Proofs.YtndbeacoaimdgaaDoor