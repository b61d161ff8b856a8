/- Texts that SheetinTakes's proof stands on, part 11 of 52. No condition of its own. -/
import Derived.Test.YtpgdngijmihafaaGreatDoorSheetinTakesMa
import Derived.Test.YtpgdngijmihafaaGreatDoorRows
import Derived.WalkKit
import Derived.WalkMore
import Derived.ProofKit
namespace Go.Proofs.YtpgdngijmihafaaGreatDoor
open Go.RowKit
set_option maxHeartbeats 1000000 in
theorem Yoj (k:Int) (w:World):Calls Tryz.prog 88 #[.int .i64 k] w fun e w'=> e = .returned (.tuple #[.int .i64 (Yix k),.int .i64 (Yjx k),.bool (Yes k)])∧w=w':=by
 rcases Yc8 k with rfl | rfl | rfl | rfl | rfl | rfl | ⟨h,hv⟩
 case _ | _ | _ | _ | _ | _=>
  go_enter Tryz.func88,Tryz.ntmps88
  go_wp2
  go_ret3
  exact ⟨rfl,rfl⟩
 obtain ⟨t1,t2,t3,t4,t5,t6⟩:=Yxb h
 unfold Yix Yjx
 rw [h,hv]
 clear h hv
 go_enter Tryz.func88,Tryz.ntmps88
 go_wp2
 go_ret3
 exact ⟨rfl,rfl⟩
set_option maxHeartbeats 1000000 in
theorem Yzp (k:Int) (w:World):Calls Tryz.prog 49 #[.int .i64 k] w fun e w'=> e = .returned (.tuple #[.int .i64 (Yfo k),.int .i64 (Yf6 k)])∧w=w':=by
 rcases Yc8 k with rfl | rfl | rfl | rfl | rfl | rfl | ⟨h,hv⟩
 case _ | _ | _ | _ | _ | _=>
  go_enter Tryz.func49,Tryz.ntmps49
  go_wp2
  go_ret2
  exact ⟨rfl,rfl⟩
 obtain ⟨t1,t2,t3,t4,t5,t6⟩:=Yxb h
 unfold Yfo Yf6
 rw [hv]
 clear h hv
 go_enter Tryz.func49,Tryz.ntmps49
 go_wp2
 go_ret2
 exact ⟨rfl,rfl⟩
def Yej (k:Int):Int:=Yix k / 16
def Y4k (k:Int):Int:=Yjx k / 16
set_option maxHeartbeats 1000000 in
theorem Yij (k:Int) (w:World):Calls Tryz.prog 58 #[.int .i64 k] w fun e w'=> e = .returned (.tuple #[.int .i64 (Yej k),.int .i64 (Y4k k)])∧w=w':=by
 have c:=Yoj k w
 have hv:(Yix k).tdiv 16=Yej k∧(Yjx k).tdiv 16=Y4k k:=by
  rcases Yc8 k with rfl | rfl | rfl | rfl | rfl | rfl | ⟨_,hv⟩
  case _ | _ | _ | _ | _ | _=> exact ⟨rfl,rfl⟩
  unfold Yej Y4k Yix Yjx
  rw [hv]
  exact ⟨rfl,rfl⟩
 have hw:IntKind.i64.wrap (Yej k)=Yej k∧IntKind.i64.wrap (Y4k k)=Y4k k:=by
  rcases Yc8 k with rfl | rfl | rfl | rfl | rfl | rfl | ⟨_,hv⟩
  case _ | _ | _ | _ | _ | _=> exact ⟨rfl,rfl⟩
  unfold Yej Y4k Yix Yjx
  rw [hv]
  exact ⟨rfl,rfl⟩
 obtain ⟨v1,v2⟩:=hv
 obtain ⟨v3,v4⟩:=hw
 generalize Yix k=a at c v1
 generalize Yjx k=b at c v2
 generalize Yej k=a2 at v1 v3 ⊢
 generalize Y4k k=b2 at v2 v4 ⊢
 go_enter Tryz.func58,Tryz.ntmps58
 go_wp2_with (first | (with_reducible refine c.mono ?_;rintro e w1 ⟨rfl,rfl⟩))
 go_ret2
 exact ⟨rfl,rfl⟩
theorem Yqz (w:World) (o1 o2:Obj):((w.alloc o1).alloc o2).heap[w.heap.size]? = some o1:=by
 show ((w.heap.push o1).push o2)[w.heap.size]? = some o1
 rw [Array.getElem?_push,if_neg (by simp)]
 simp
theorem Yl6 (w:World) (o1 o2:Obj):Below w.heap.size w ((w.alloc o1).alloc o2):=((Below.refl _ w).alloc (Nat.le_refl _) _).alloc (by simp) _
def Y8m (k:Int):Array Value:=#[.int .i64 (Yix k),.int .i64 (Yjx k),.int .i64 (Yfo k),.int .i64 (Yf6 k)]
set_option maxHeartbeats 2000000 in
theorem Yh2 (k:Int) (w:World):Calls Tryz.prog 16 #[.int .i64 k] w fun e w'=> e = .returned (.agg (Y8m k))∧Below w.heap.size w w':=by
 by_cases hk:k<0∨6<k
 ·have hv:Y8m k = #[.int .i64 0,.int .i64 0,.int .i64 0,.int .i64 0]:=by
   have hf:Y8e k=(0,0,0,0):=by
    unfold Y8e
    rw [if_neg (by omega),if_neg (by omega),if_neg (by omega),if_neg (by omega),if_neg (by omega),if_neg (by omega)]
   unfold Y8m Yix Yjx Yfo Yf6
   rw [hf]
  rw [hv]
  clear hv
  by_cases hn:k<0
  ·have t0:decide (k<0)=true:=by simpa using hn
   clear hk hn
   go_enter Tryz.func16,Tryz.ntmps16
   go_wp2
   exact bodyPost_ret (results_cell_row rfl _ _ w.heap.size 52 _ (0,0) _ rfl (Yqz w _ _) Tryz.underlying52 rfl (by kernel_rfl)) rfl ⟨rfl,Yl6 w _ _⟩
  ·have t0:decide (k<0)=false:=by simpa using hn
   have t1:decide (7≤k)=true:=by simp;omega
   clear hk hn
   go_enter Tryz.func16,Tryz.ntmps16
   go_wp2
   exact bodyPost_ret (results_cell_row rfl _ _ w.heap.size 52 _ (0,0) _ rfl (Yqz w _ _) Tryz.underlying52 rfl (by kernel_rfl)) rfl ⟨rfl,Yl6 w _ _⟩
 have hk2:k=0∨k=1∨k=2∨k=3∨k=4∨k=5∨k=6:=by omega
 clear hk
 rcases hk2 with rfl | rfl | rfl | rfl | rfl | rfl | rfl
 all_goals
  go_enter Tryz.func16,Tryz.ntmps16
  go_wp2
  exact bodyPost_ret (results_cell_row rfl _ _ w.heap.size 52 _ (0,0) _ rfl (Yqz w _ _) Tryz.underlying52 rfl (by kernel_rfl)) rfl ⟨rfl,Yl6 w _ _⟩
end Go.Proofs.YtpgdngijmihafaaGreatDoor
namespace Go.Proofs.YtpgdngijmihafaaGreatDoor
def acr (k:Int):Nat:=(Yej k).toNat
def dow (k:Int):Nat:=(Y4k k).toNat
def wid (k:Int) (p:Nat):Nat:=if p=0 then 16*acr k else 8*acr k
def hei (k:Int) (p:Nat):Nat:=if p=0 then 16*dow k else 8*dow k
def siz (k:Int) (p:Nat):Nat:=wid k p*hei k p
def Ydd (k:Int):Nat:=acr k*dow k
theorem Yd2 (k:Int):(acr k:Int)=Yej k∧(dow k:Int)=Y4k k∧Yix k=16*(acr k:Int)∧Yjx k=16*(dow k:Int)∧acr k≤88∧dow k≤72:=by
 rcases Yc8 k with rfl | rfl | rfl | rfl | rfl | rfl | ⟨h,hv⟩
 case _ | _ | _ | _ | _ | _=> decide +kernel
 unfold acr dow Yej Y4k Yix Yjx
 rw [hv]
 decide +kernel
theorem Y57 {k:Int} (h:Yes k=false):acr k=0∧dow k=0:=by
 rcases Yc8 k with rfl | rfl | rfl | rfl | rfl | rfl | ⟨_,hv⟩
 case _ | _ | _ | _ | _ | _=> cases h
 unfold acr dow Yej Y4k Yix Yjx
 rw [hv]
 exact ⟨rfl,rfl⟩
theorem Y75 {k:Int} (h:Yes k=true):0<acr k∧0<dow k:=by
 rcases Yc8 k with rfl | rfl | rfl | rfl | rfl | rfl | ⟨h2,_⟩
 case _ | _ | _ | _ | _ | _=> decide +kernel
 rw [h] at h2
 cases h2
theorem Y0b {k:Int} (h:Yes k=false):Ydd k=0:=by
 unfold Ydd
 rw [(Y57 h).1,Nat.zero_mul]
theorem Ypj (k:Int):Ydd k≤6336:=Nat.mul_le_mul (Yd2 k).2.2.2.2.1 (Yd2 k).2.2.2.2.2
def plc (b:Nat):Nat:=if b<4 then 0 else b-3
def col (k:Int) (n b:Nat):Nat:=if b<4 then 2*(n%acr k)+b%2 else n%acr k
def lin (k:Int) (n b:Nat):Nat:=if b<4 then 2*(n / acr k)+b / 2 else n / acr k
def fst8 (k:Int) (n b:Nat):Nat:=8*(lin k n b*wid k (plc b)+col k n b)
def pos (k:Int) (n b i:Nat):Nat:=fst8 k n b+i / 8*wid k (plc b)+i%8
theorem Yyu {k:Int} {n:Nat} (h:n<Ydd k):0<acr k∧n%acr k<acr k∧n / acr k<dow k:=by
 have h0:0<acr k:=by
  rcases Nat.eq_zero_or_pos (acr k) with h1 | h1
  ·unfold Ydd at h;rw [h1,Nat.zero_mul] at h;cases h
  ·exact h1
 exact ⟨h0,Nat.mod_lt _ h0,Nat.div_lt_of_lt_mul h⟩
end Go.Proofs.YtpgdngijmihafaaGreatDoor
namespace Go.Proofs.YtpgdngijmihafaaGreatDoor
open Go.RowKit
def Y5b (k n:Int):Bool:=decide (0≤n)&&decide (n<(Ydd k:Int))
theorem Yrb {k n:Int}:Y5b k n=true↔0≤n∧n.toNat<Ydd k:=by
 unfold Y5b
 simp
 omega
def Yc5 (c m:Nat) (v:Int):Bool:=decide (-32≤v∧v≤31)&&decide (0≤32*(c:Int)+v∧32*(c:Int)+v+30≤32*(m:Int)-2)
def Y02 (k n a b:Int):Bool:=Y5b k n&&(Yc5 (n.toNat%acr k) (acr k) a&&Yc5 (n.toNat / acr k) (dow k) b)
end Go.Proofs.YtpgdngijmihafaaGreatDoor