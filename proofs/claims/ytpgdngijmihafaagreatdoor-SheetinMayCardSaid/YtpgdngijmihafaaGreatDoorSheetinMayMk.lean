/- Texts that SheetinMay's proof stands on, part 11 of 52. No condition of its own. -/
import Derived.Test.YtpgdngijmihafaaGreatDoorSheetinMayMa
import Derived.Test.YtpgdngijmihafaaGreatDoorRows
import Derived.WalkKit
import Derived.WalkMore
import Derived.ProofKit
import Derived.Lib.Hide
namespace Go.Proofs.YtpgdngijmihafaaGreatDoor
open Go.RowKit
set_option maxHeartbeats 1000000 in
theorem Ymz (k:Int) (w:World):Calls Tryz.prog 88 #[.int .i64 k] w fun e w'=> e = .returned (.tuple #[.int .i64 (Y1f k),.int .i64 (Y5h k),.bool (Yfs k)])∧w=w':=by
 rcases Yc0 k with rfl | rfl | rfl | rfl | rfl | rfl | ⟨h,hv⟩
 case _ | _ | _ | _ | _ | _=>
  go_enter Tryz.func88,Tryz.ntmps88
  go_wp2
  go_ret3
  exact ⟨rfl,rfl⟩
 obtain ⟨t1,t2,t3,t4,t5,t6⟩:=Yvm h
 unfold Y1f Y5h
 rw [h,hv]
 clear h hv
 go_enter Tryz.func88,Tryz.ntmps88
 go_wp2
 go_ret3
 exact ⟨rfl,rfl⟩
set_option maxHeartbeats 1000000 in
theorem Yir (k:Int) (w:World):Calls Tryz.prog 49 #[.int .i64 k] w fun e w'=> e = .returned (.tuple #[.int .i64 (Yhg k),.int .i64 (Yjg k)])∧w=w':=by
 rcases Yc0 k with rfl | rfl | rfl | rfl | rfl | rfl | ⟨h,hv⟩
 case _ | _ | _ | _ | _ | _=>
  go_enter Tryz.func49,Tryz.ntmps49
  go_wp2
  go_ret2
  exact ⟨rfl,rfl⟩
 obtain ⟨t1,t2,t3,t4,t5,t6⟩:=Yvm h
 unfold Yhg Yjg
 rw [hv]
 clear h hv
 go_enter Tryz.func49,Tryz.ntmps49
 go_wp2
 go_ret2
 exact ⟨rfl,rfl⟩
def Yd0 (k:Int):Int:=Y1f k / 16
def Y1e (k:Int):Int:=Y5h k / 16
set_option maxHeartbeats 1000000 in
theorem Yfd (k:Int) (w:World):Calls Tryz.prog 58 #[.int .i64 k] w fun e w'=> e = .returned (.tuple #[.int .i64 (Yd0 k),.int .i64 (Y1e k)])∧w=w':=by
 have c:=Ymz k w
 have hv:(Y1f k).tdiv 16=Yd0 k∧(Y5h k).tdiv 16=Y1e k:=by
  rcases Yc0 k with rfl | rfl | rfl | rfl | rfl | rfl | ⟨_,hv⟩
  case _ | _ | _ | _ | _ | _=> exact ⟨rfl,rfl⟩
  unfold Yd0 Y1e Y1f Y5h
  rw [hv]
  exact ⟨rfl,rfl⟩
 have hw:IntKind.i64.wrap (Yd0 k)=Yd0 k∧IntKind.i64.wrap (Y1e k)=Y1e k:=by
  rcases Yc0 k with rfl | rfl | rfl | rfl | rfl | rfl | ⟨_,hv⟩
  case _ | _ | _ | _ | _ | _=> exact ⟨rfl,rfl⟩
  unfold Yd0 Y1e Y1f Y5h
  rw [hv]
  exact ⟨rfl,rfl⟩
 obtain ⟨v1,v2⟩:=hv
 obtain ⟨v3,v4⟩:=hw
 generalize Y1f k=a at c v1
 generalize Y5h k=b at c v2
 generalize Yd0 k=a2 at v1 v3 ⊢
 generalize Y1e k=b2 at v2 v4 ⊢
 go_enter Tryz.func58,Tryz.ntmps58
 go_wp2_with (first | (with_reducible refine c.mono ?_;rintro e w1 ⟨rfl,rfl⟩))
 go_ret2
 exact ⟨rfl,rfl⟩
end Go.Proofs.YtpgdngijmihafaaGreatDoor
namespace Go.Proofs.YtpgdngijmihafaaGreatDoor
def acr (k:Int):Nat:=(Yd0 k).toNat
def dow (k:Int):Nat:=(Y1e k).toNat
def wid (k:Int) (p:Nat):Nat:=if p=0 then 16*acr k else 8*acr k
def Yg1 (k:Int):Nat:=acr k*dow k
theorem Yij (k:Int):(acr k:Int)=Yd0 k∧(dow k:Int)=Y1e k∧Y1f k=16*(acr k:Int)∧Y5h k=16*(dow k:Int)∧acr k≤88∧dow k≤72:=by
 rcases Yc0 k with rfl | rfl | rfl | rfl | rfl | rfl | ⟨h,hv⟩
 case _ | _ | _ | _ | _ | _=> decide +kernel
 unfold acr dow Yd0 Y1e Y1f Y5h
 rw [hv]
 decide +kernel
theorem Yxc (k:Int):Yg1 k≤6336:=Nat.mul_le_mul (Yij k).2.2.2.2.1 (Yij k).2.2.2.2.2
def plc (b:Nat):Nat:=if b<4 then 0 else b-3
def col (k:Int) (n b:Nat):Nat:=if b<4 then 2*(n%acr k)+b%2 else n%acr k
def lin (k:Int) (n b:Nat):Nat:=if b<4 then 2*(n / acr k)+b / 2 else n / acr k
def fst8 (k:Int) (n b:Nat):Nat:=8*(lin k n b*wid k (plc b)+col k n b)
def pos (k:Int) (n b i:Nat):Nat:=fst8 k n b+i / 8*wid k (plc b)+i%8
theorem Yxb {k:Int} {n:Nat} (h:n<Yg1 k):0<acr k∧n%acr k<acr k∧n / acr k<dow k:=by
 have h0:0<acr k:=by
  rcases Nat.eq_zero_or_pos (acr k) with h1 | h1
  ·unfold Yg1 at h;rw [h1,Nat.zero_mul] at h;cases h
  ·exact h1
 exact ⟨h0,Nat.mod_lt _ h0,Nat.div_lt_of_lt_mul h⟩
end Go.Proofs.YtpgdngijmihafaaGreatDoor
namespace Go.Proofs.YtpgdngijmihafaaGreatDoor
open Go.RowKit
def Y7s (k n:Int):Bool:=decide (0≤n)&&decide (n<(Yg1 k:Int))
theorem Y5i {k n:Int}:Y7s k n=true↔0≤n∧n.toNat<Yg1 k:=by
 unfold Y7s
 simp
 omega
def Ygv (c m:Nat) (v:Int):Bool:=decide (-32≤v∧v≤31)&&decide (0≤32*(c:Int)+v∧32*(c:Int)+v+30≤32*(m:Int)-2)
def Y1u (k n a b:Int):Bool:=Y7s k n&&(Ygv (n.toNat%acr k) (acr k) a&&Ygv (n.toNat / acr k) (dow k) b)
set_option maxHeartbeats 400000 in
theorem Yk9 (a b c:Int) (w:World):
  Calls Tryz.prog 121 #[.int .i64 a,.int .i64 b,.int .i64 c] w fun e w'=> e = .returned (.int .i64 (Yji a b c))∧w=w':=by
 go_enter Tryz.func121,Tryz.ntmps121
 go_wp2
 all_goals (go_ret;exact ⟨Yct (by unfold Yji;omega),rfl⟩)
set_option maxHeartbeats 400000 in
theorem Ycp (n:Int) (w:World):
  Calls Tryz.prog 129 #[.int .i64 n] w fun e w'=> e = .returned (.int .i64 (Ycw n))∧w=w':=by
 have ha:=Y7h n
 have h1:0≤n%64:=by omega
 have h2:n%64≤63:=by omega
 go_enter Tryz.func129,Tryz.ntmps129
 go_wp2
 all_goals (go_ret;exact ⟨Yct (by unfold Ycw;omega),rfl⟩)
end Go.Proofs.YtpgdngijmihafaaGreatDoor