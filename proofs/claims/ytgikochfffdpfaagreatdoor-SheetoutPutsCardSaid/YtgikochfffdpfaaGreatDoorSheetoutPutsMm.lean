/- Texts that SheetoutPuts's proof stands on, part 13 of 47. No condition of its own. -/
import Derived.Test.YtgikochfffdpfaaGreatDoorSheetoutPutsMa
import Derived.Test.YtgikochfffdpfaaGreatDoorRows
import Derived.WalkKit
import Derived.WalkMore
import Derived.ProofKit
namespace Go.Proofs.YtgikochfffdpfaaGreatDoor
open Go.RowKit
set_option maxHeartbeats 1000000 in
theorem Ykt (k:Int) (w:World):Calls Tryz.prog 114 #[.int .i64 k] w fun e w'=> e = .returned (.tuple #[.int .i64 (Yf4 k),.int .i64 (Ygi k),.bool (Yem k)])∧w=w':=by
 rcases Ycd k with rfl | rfl | rfl | rfl | rfl | rfl | ⟨h,hv⟩
 case _ | _ | _ | _ | _ | _=>
  go_enter Tryz.func114,Tryz.ntmps114
  go_wp2
  go_ret3
  exact ⟨rfl,rfl⟩
 obtain ⟨t1,t2,t3,t4,t5,t6⟩:=Yp2 h
 unfold Yf4 Ygi
 rw [h,hv]
 clear h hv
 go_enter Tryz.func114,Tryz.ntmps114
 go_wp2
 go_ret3
 exact ⟨rfl,rfl⟩
set_option maxHeartbeats 1000000 in
theorem Yhs (k:Int) (w:World):Calls Tryz.prog 57 #[.int .i64 k] w fun e w'=> e = .returned (.tuple #[.int .i64 (Yf3 k),.int .i64 (Yfm k)])∧w=w':=by
 rcases Ycd k with rfl | rfl | rfl | rfl | rfl | rfl | ⟨h,hv⟩
 case _ | _ | _ | _ | _ | _=>
  go_enter Tryz.func57,Tryz.ntmps57
  go_wp2
  go_ret2
  exact ⟨rfl,rfl⟩
 obtain ⟨t1,t2,t3,t4,t5,t6⟩:=Yp2 h
 unfold Yf3 Yfm
 rw [hv]
 clear h hv
 go_enter Tryz.func57,Tryz.ntmps57
 go_wp2
 go_ret2
 exact ⟨rfl,rfl⟩
def Yex (k:Int):Int:=Yf4 k / 16
def Ys1 (k:Int):Int:=Ygi k / 16
set_option maxHeartbeats 1000000 in
theorem Yel (k:Int) (w:World):Calls Tryz.prog 87 #[.int .i64 k] w fun e w'=> e = .returned (.tuple #[.int .i64 (Yex k),.int .i64 (Ys1 k)])∧w=w':=by
 have c:=Ykt k w
 have hv:(Yf4 k).tdiv 16=Yex k∧(Ygi k).tdiv 16=Ys1 k:=by
  rcases Ycd k with rfl | rfl | rfl | rfl | rfl | rfl | ⟨_,hv⟩
  case _ | _ | _ | _ | _ | _=> exact ⟨rfl,rfl⟩
  unfold Yex Ys1 Yf4 Ygi
  rw [hv]
  exact ⟨rfl,rfl⟩
 have hw:IntKind.i64.wrap (Yex k)=Yex k∧IntKind.i64.wrap (Ys1 k)=Ys1 k:=by
  rcases Ycd k with rfl | rfl | rfl | rfl | rfl | rfl | ⟨_,hv⟩
  case _ | _ | _ | _ | _ | _=> exact ⟨rfl,rfl⟩
  unfold Yex Ys1 Yf4 Ygi
  rw [hv]
  exact ⟨rfl,rfl⟩
 obtain ⟨v1,v2⟩:=hv
 obtain ⟨v3,v4⟩:=hw
 generalize Yf4 k=a at c v1
 generalize Ygi k=b at c v2
 generalize Yex k=a2 at v1 v3 ⊢
 generalize Ys1 k=b2 at v2 v4 ⊢
 go_enter Tryz.func87,Tryz.ntmps87
 go_wp2_with (first | (with_reducible refine c.mono ?_;rintro e w1 ⟨rfl,rfl⟩))
 go_ret2
 exact ⟨rfl,rfl⟩
theorem Ylw (w:World) (o1 o2:Obj):((w.alloc o1).alloc o2).heap[w.heap.size]? = some o1:=by
 show ((w.heap.push o1).push o2)[w.heap.size]? = some o1
 rw [Array.getElem?_push,if_neg (by simp)]
 simp
theorem Yi0 (w:World) (o1 o2:Obj):Below w.heap.size w ((w.alloc o1).alloc o2):=((Below.refl _ w).alloc (Nat.le_refl _) _).alloc (by simp) _
def Ys2 (k:Int):Array Value:=#[.int .i64 (Yf4 k),.int .i64 (Ygi k),.int .i64 (Yf3 k),.int .i64 (Yfm k)]
set_option maxHeartbeats 2000000 in
theorem Ydj (k:Int) (w:World):Calls Tryz.prog 34 #[.int .i64 k] w fun e w'=> e = .returned (.agg (Ys2 k))∧Below w.heap.size w w':=by
 by_cases hk:k<0∨6<k
 ·have hv:Ys2 k = #[.int .i64 0,.int .i64 0,.int .i64 0,.int .i64 0]:=by
   have hf:Yxk k=(0,0,0,0):=by
    unfold Yxk
    rw [if_neg (by omega),if_neg (by omega),if_neg (by omega),if_neg (by omega),if_neg (by omega),if_neg (by omega)]
   unfold Ys2 Yf4 Ygi Yf3 Yfm
   rw [hf]
  rw [hv]
  clear hv
  by_cases hn:k<0
  ·have t0:decide (k<0)=true:=by simpa using hn
   clear hk hn
   go_enter Tryz.func34,Tryz.ntmps34
   go_wp2
   exact bodyPost_ret (results_cell_row rfl _ _ w.heap.size 67 _ (0,0) _ rfl (Ylw w _ _) Tryz.underlying67 rfl (by kernel_rfl)) rfl ⟨rfl,Yi0 w _ _⟩
  ·have t0:decide (k<0)=false:=by simpa using hn
   have t1:decide (7≤k)=true:=by simp;omega
   clear hk hn
   go_enter Tryz.func34,Tryz.ntmps34
   go_wp2
   exact bodyPost_ret (results_cell_row rfl _ _ w.heap.size 67 _ (0,0) _ rfl (Ylw w _ _) Tryz.underlying67 rfl (by kernel_rfl)) rfl ⟨rfl,Yi0 w _ _⟩
 have hk2:k=0∨k=1∨k=2∨k=3∨k=4∨k=5∨k=6:=by omega
 clear hk
 rcases hk2 with rfl | rfl | rfl | rfl | rfl | rfl | rfl
 all_goals
  go_enter Tryz.func34,Tryz.ntmps34
  go_wp2
  exact bodyPost_ret (results_cell_row rfl _ _ w.heap.size 67 _ (0,0) _ rfl (Ylw w _ _) Tryz.underlying67 rfl (by kernel_rfl)) rfl ⟨rfl,Yi0 w _ _⟩
end Go.Proofs.YtgikochfffdpfaaGreatDoor
namespace Go.Proofs.YtgikochfffdpfaaGreatDoor
def acr (k:Int):Nat:=(Yex k).toNat
def dow (k:Int):Nat:=(Ys1 k).toNat
def Yct (k:Int):Nat:=acr k*dow k
theorem Ycm (k:Int):(acr k:Int)=Yex k∧(dow k:Int)=Ys1 k∧Yf4 k=16*(acr k:Int)∧Ygi k=16*(dow k:Int)∧acr k≤88∧dow k≤72:=by
 rcases Ycd k with rfl | rfl | rfl | rfl | rfl | rfl | ⟨h,hv⟩
 case _ | _ | _ | _ | _ | _=> decide +kernel
 unfold acr dow Yex Ys1 Yf4 Ygi
 rw [hv]
 decide +kernel
theorem Yvu {k:Int} (h:Yem k=false):acr k=0∧dow k=0:=by
 rcases Ycd k with rfl | rfl | rfl | rfl | rfl | rfl | ⟨_,hv⟩
 case _ | _ | _ | _ | _ | _=> cases h
 unfold acr dow Yex Ys1 Yf4 Ygi
 rw [hv]
 exact ⟨rfl,rfl⟩
theorem Yvv {k:Int} (h:Yem k=true):0<acr k∧0<dow k:=by
 rcases Ycd k with rfl | rfl | rfl | rfl | rfl | rfl | ⟨h2,_⟩
 case _ | _ | _ | _ | _ | _=> decide +kernel
 rw [h] at h2
 cases h2
theorem Yra {k:Int} (h:Yem k=false):Yct k=0:=by
 unfold Yct
 rw [(Yvu h).1,Nat.zero_mul]
theorem Yko (k:Int):Yct k≤6336:=Nat.mul_le_mul (Ycm k).2.2.2.2.1 (Ycm k).2.2.2.2.2
theorem Yq9 {k:Int} {n:Nat} (h:n<Yct k):0<acr k∧n%acr k<acr k∧n / acr k<dow k:=by
 have h0:0<acr k:=by
  rcases Nat.eq_zero_or_pos (acr k) with h1 | h1
  ·unfold Yct at h;rw [h1,Nat.zero_mul] at h;cases h
  ·exact h1
 exact ⟨h0,Nat.mod_lt _ h0,Nat.div_lt_of_lt_mul h⟩
end Go.Proofs.YtgikochfffdpfaaGreatDoor
namespace Go.Proofs.YtgikochfffdpfaaGreatDoor
open Go.RowKit
def Yvr (k n:Int):Bool:=decide (0≤n)&&decide (n<(Yct k:Int))
theorem Yl0 {k n:Int}:Yvr k n=true↔0≤n∧n.toNat<Yct k:=by
 unfold Yvr
 simp
 omega
def Ycb (c m:Nat) (v:Int):Bool:=decide (-32≤v∧v≤31)&&decide (0≤32*(c:Int)+v∧32*(c:Int)+v+30≤32*(m:Int)-2)
def Yp7 (k n a b:Int):Bool:=Yvr k n&&(Ycb (n.toNat%acr k) (acr k) a&&Ycb (n.toNat / acr k) (dow k) b)
end Go.Proofs.YtgikochfffdpfaaGreatDoor