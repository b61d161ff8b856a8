/- Texts that SheetoutBack's proof stands on, part 11 of 52. No condition of its own. -/
import Derived.Test.YtgikochfffdpfaaGreatDoorSheetoutBackMa
import Derived.Test.YtgikochfffdpfaaGreatDoorRows
import Derived.WalkKit
import Derived.WalkMore
import Derived.ProofKit
import Derived.Lib.Hide
namespace Go.Proofs.YtgikochfffdpfaaGreatDoor
open Go.RowKit
set_option maxHeartbeats 1000000 in
theorem Yqq (k:Int) (w:World):Calls Tryz.prog 114 #[.int .i64 k] w fun e w'=> e = .returned (.tuple #[.int .i64 (Y66 k),.int .i64 (Qb8 k),.bool (Ygw k)])∧w=w':=by
 rcases Ydv k with rfl | rfl | rfl | rfl | rfl | rfl | ⟨h,hv⟩
 case _ | _ | _ | _ | _ | _=>
  go_enter Tryz.func114,Tryz.ntmps114
  go_wp2
  go_ret3
  exact ⟨rfl,rfl⟩
 obtain ⟨t1,t2,t3,t4,t5,t6⟩:=Y0b h
 unfold Y66 Qb8
 rw [h,hv]
 clear h hv
 go_enter Tryz.func114,Tryz.ntmps114
 go_wp2
 go_ret3
 exact ⟨rfl,rfl⟩
set_option maxHeartbeats 1000000 in
theorem Yim (k:Int) (w:World):Calls Tryz.prog 57 #[.int .i64 k] w fun e w'=> e = .returned (.tuple #[.int .i64 (Yiw k),.int .i64 (Yjo k)])∧w=w':=by
 rcases Ydv k with rfl | rfl | rfl | rfl | rfl | rfl | ⟨h,hv⟩
 case _ | _ | _ | _ | _ | _=>
  go_enter Tryz.func57,Tryz.ntmps57
  go_wp2
  go_ret2
  exact ⟨rfl,rfl⟩
 obtain ⟨t1,t2,t3,t4,t5,t6⟩:=Y0b h
 unfold Yiw Yjo
 rw [hv]
 clear h hv
 go_enter Tryz.func57,Tryz.ntmps57
 go_wp2
 go_ret2
 exact ⟨rfl,rfl⟩
def Ydt (k:Int):Int:=Y66 k / 16
def Y65 (k:Int):Int:=Qb8 k / 16
set_option maxHeartbeats 1000000 in
theorem Yfh (k:Int) (w:World):Calls Tryz.prog 87 #[.int .i64 k] w fun e w'=> e = .returned (.tuple #[.int .i64 (Ydt k),.int .i64 (Y65 k)])∧w=w':=by
 have c:=Yqq k w
 have hv:(Y66 k).tdiv 16=Ydt k∧(Qb8 k).tdiv 16=Y65 k:=by
  rcases Ydv k with rfl | rfl | rfl | rfl | rfl | rfl | ⟨_,hv⟩
  case _ | _ | _ | _ | _ | _=> exact ⟨rfl,rfl⟩
  unfold Ydt Y65 Y66 Qb8
  rw [hv]
  exact ⟨rfl,rfl⟩
 have hw:IntKind.i64.wrap (Ydt k)=Ydt k∧IntKind.i64.wrap (Y65 k)=Y65 k:=by
  rcases Ydv k with rfl | rfl | rfl | rfl | rfl | rfl | ⟨_,hv⟩
  case _ | _ | _ | _ | _ | _=> exact ⟨rfl,rfl⟩
  unfold Ydt Y65 Y66 Qb8
  rw [hv]
  exact ⟨rfl,rfl⟩
 obtain ⟨v1,v2⟩:=hv
 obtain ⟨v3,v4⟩:=hw
 generalize Y66 k=a at c v1
 generalize Qb8 k=b at c v2
 generalize Ydt k=a2 at v1 v3 ⊢
 generalize Y65 k=b2 at v2 v4 ⊢
 go_enter Tryz.func87,Tryz.ntmps87
 go_wp2_with (first | (with_reducible refine c.mono ?_;rintro e w1 ⟨rfl,rfl⟩))
 go_ret2
 exact ⟨rfl,rfl⟩
end Go.Proofs.YtgikochfffdpfaaGreatDoor
namespace Go.Proofs.YtgikochfffdpfaaGreatDoor
def acr (k:Int):Nat:=(Ydt k).toNat
def dow (k:Int):Nat:=(Y65 k).toNat
def wid (k:Int) (p:Nat):Nat:=if p=0 then 16*acr k else 8*acr k
def Yjc (k:Int):Nat:=acr k*dow k
theorem Yi7 (k:Int):(acr k:Int)=Ydt k∧(dow k:Int)=Y65 k∧Y66 k=16*(acr k:Int)∧Qb8 k=16*(dow k:Int)∧acr k≤88∧dow k≤72:=by
 rcases Ydv k with rfl | rfl | rfl | rfl | rfl | rfl | ⟨h,hv⟩
 case _ | _ | _ | _ | _ | _=> decide +kernel
 unfold acr dow Ydt Y65 Y66 Qb8
 rw [hv]
 decide +kernel
theorem Y2e (k:Int):Yjc k≤6336:=Nat.mul_le_mul (Yi7 k).2.2.2.2.1 (Yi7 k).2.2.2.2.2
def plc (b:Nat):Nat:=if b<4 then 0 else b-3
def col (k:Int) (n b:Nat):Nat:=if b<4 then 2*(n%acr k)+b%2 else n%acr k
def lin (k:Int) (n b:Nat):Nat:=if b<4 then 2*(n / acr k)+b / 2 else n / acr k
def fst8 (k:Int) (n b:Nat):Nat:=8*(lin k n b*wid k (plc b)+col k n b)
def pos (k:Int) (n b i:Nat):Nat:=fst8 k n b+i / 8*wid k (plc b)+i%8
theorem Y2d {k:Int} {n:Nat} (h:n<Yjc k):0<acr k∧n%acr k<acr k∧n / acr k<dow k:=by
 have h0:0<acr k:=by
  rcases Nat.eq_zero_or_pos (acr k) with h1 | h1
  ·unfold Yjc at h;rw [h1,Nat.zero_mul] at h;cases h
  ·exact h1
 exact ⟨h0,Nat.mod_lt _ h0,Nat.div_lt_of_lt_mul h⟩
end Go.Proofs.YtgikochfffdpfaaGreatDoor
namespace Go.Proofs.YtgikochfffdpfaaGreatDoor
open Go.RowKit
def Qeq (k n:Int):Bool:=decide (0≤n)&&decide (n<(Yjc k:Int))
theorem Qca {k n:Int}:Qeq k n=true↔0≤n∧n.toNat<Yjc k:=by
 unfold Qeq
 simp
 omega
def Yi3 (c m:Nat) (v:Int):Bool:=decide (-32≤v∧v≤31)&&decide (0≤32*(c:Int)+v∧32*(c:Int)+v+30≤32*(m:Int)-2)
def Y7v (k n a b:Int):Bool:=Qeq k n&&(Yi3 (n.toNat%acr k) (acr k) a&&Yi3 (n.toNat / acr k) (dow k) b)
set_option maxHeartbeats 400000 in
theorem Yok (a b c:Int) (w:World):
  Calls Tryz.prog 118 #[.int .i64 a,.int .i64 b,.int .i64 c] w fun e w'=> e = .returned (.int .i64 (Yme a b c))∧w=w':=by
 go_enter Tryz.func118,Tryz.ntmps118
 go_wp2
 all_goals (go_ret;exact ⟨Ydo (by unfold Yme;omega),rfl⟩)
set_option maxHeartbeats 400000 in
theorem Ydm (n:Int) (w:World):
  Calls Tryz.prog 147 #[.int .i64 n] w fun e w'=> e = .returned (.int .i64 (Ybu n))∧w=w':=by
 have ha:=Qef n
 have h1:0≤n%64:=by omega
 have h2:n%64≤63:=by omega
 go_enter Tryz.func147,Tryz.ntmps147
 go_wp2
 all_goals (go_ret;exact ⟨Ydo (by unfold Ybu;omega),rfl⟩)
end Go.Proofs.YtgikochfffdpfaaGreatDoor