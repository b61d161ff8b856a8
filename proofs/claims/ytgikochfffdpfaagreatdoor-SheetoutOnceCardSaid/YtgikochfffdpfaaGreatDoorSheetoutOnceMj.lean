/- Texts that SheetoutOnce's proof stands on, part 10 of 52. No condition of its own. -/
import Derived.Test.YtgikochfffdpfaaGreatDoorSheetoutOnceMa
import Derived.Test.YtgikochfffdpfaaGreatDoorRows
import Derived.WalkKit
import Derived.WalkMore
import Derived.ProofKit
import Derived.Lib.Hide
namespace Go.Proofs.YtgikochfffdpfaaGreatDoor
open Go.RowKit
set_option maxHeartbeats 1000000 in
theorem Yo1 (k:Int) (w:World):Calls Tryz.prog 114 #[.int .i64 k] w fun e w'=> e = .returned (.tuple #[.int .i64 (Y4q k),.int .i64 (Y88 k),.bool (Ygs k)])∧w=w':=by
 rcases Ydj k with rfl | rfl | rfl | rfl | rfl | rfl | ⟨h,hv⟩
 case _ | _ | _ | _ | _ | _=>
  go_enter Tryz.func114,Tryz.ntmps114
  go_wp2
  go_ret3
  exact ⟨rfl,rfl⟩
 obtain ⟨t1,t2,t3,t4,t5,t6⟩:=Yyc h
 unfold Y4q Y88
 rw [h,hv]
 clear h hv
 go_enter Tryz.func114,Tryz.ntmps114
 go_wp2
 go_ret3
 exact ⟨rfl,rfl⟩
set_option maxHeartbeats 1000000 in
theorem Yhx (k:Int) (w:World):Calls Tryz.prog 57 #[.int .i64 k] w fun e w'=> e = .returned (.tuple #[.int .i64 (Yib k),.int .i64 (Yiy k)])∧w=w':=by
 rcases Ydj k with rfl | rfl | rfl | rfl | rfl | rfl | ⟨h,hv⟩
 case _ | _ | _ | _ | _ | _=>
  go_enter Tryz.func57,Tryz.ntmps57
  go_wp2
  go_ret2
  exact ⟨rfl,rfl⟩
 obtain ⟨t1,t2,t3,t4,t5,t6⟩:=Yyc h
 unfold Yib Yiy
 rw [hv]
 clear h hv
 go_enter Tryz.func57,Tryz.ntmps57
 go_wp2
 go_ret2
 exact ⟨rfl,rfl⟩
def Ydf (k:Int):Int:=Y4q k / 16
def Y4p (k:Int):Int:=Y88 k / 16
set_option maxHeartbeats 1000000 in
theorem Yet (k:Int) (w:World):Calls Tryz.prog 87 #[.int .i64 k] w fun e w'=> e = .returned (.tuple #[.int .i64 (Ydf k),.int .i64 (Y4p k)])∧w=w':=by
 have c:=Yo1 k w
 have hv:(Y4q k).tdiv 16=Ydf k∧(Y88 k).tdiv 16=Y4p k:=by
  rcases Ydj k with rfl | rfl | rfl | rfl | rfl | rfl | ⟨_,hv⟩
  case _ | _ | _ | _ | _ | _=> exact ⟨rfl,rfl⟩
  unfold Ydf Y4p Y4q Y88
  rw [hv]
  exact ⟨rfl,rfl⟩
 have hw:IntKind.i64.wrap (Ydf k)=Ydf k∧IntKind.i64.wrap (Y4p k)=Y4p k:=by
  rcases Ydj k with rfl | rfl | rfl | rfl | rfl | rfl | ⟨_,hv⟩
  case _ | _ | _ | _ | _ | _=> exact ⟨rfl,rfl⟩
  unfold Ydf Y4p Y4q Y88
  rw [hv]
  exact ⟨rfl,rfl⟩
 obtain ⟨v1,v2⟩:=hv
 obtain ⟨v3,v4⟩:=hw
 generalize Y4q k=a at c v1
 generalize Y88 k=b at c v2
 generalize Ydf k=a2 at v1 v3 ⊢
 generalize Y4p k=b2 at v2 v4 ⊢
 go_enter Tryz.func87,Tryz.ntmps87
 go_wp2_with (first | (with_reducible refine c.mono ?_;rintro e w1 ⟨rfl,rfl⟩))
 go_ret2
 exact ⟨rfl,rfl⟩
end Go.Proofs.YtgikochfffdpfaaGreatDoor
namespace Go.Proofs.YtgikochfffdpfaaGreatDoor
def acr (k:Int):Nat:=(Ydf k).toNat
def dow (k:Int):Nat:=(Y4p k).toNat
def wid (k:Int) (p:Nat):Nat:=if p=0 then 16*acr k else 8*acr k
def Yil (k:Int):Nat:=acr k*dow k
theorem Yih (k:Int):(acr k:Int)=Ydf k∧(dow k:Int)=Y4p k∧Y4q k=16*(acr k:Int)∧Y88 k=16*(dow k:Int)∧acr k≤88∧dow k≤72:=by
 rcases Ydj k with rfl | rfl | rfl | rfl | rfl | rfl | ⟨h,hv⟩
 case _ | _ | _ | _ | _ | _=> decide +kernel
 unfold acr dow Ydf Y4p Y4q Y88
 rw [hv]
 decide +kernel
theorem Y0b (k:Int):Yil k≤6336:=Nat.mul_le_mul (Yih k).2.2.2.2.1 (Yih k).2.2.2.2.2
def plc (b:Nat):Nat:=if b<4 then 0 else b-3
def col (k:Int) (n b:Nat):Nat:=if b<4 then 2*(n%acr k)+b%2 else n%acr k
def lin (k:Int) (n b:Nat):Nat:=if b<4 then 2*(n / acr k)+b / 2 else n / acr k
def fst8 (k:Int) (n b:Nat):Nat:=8*(lin k n b*wid k (plc b)+col k n b)
def pos (k:Int) (n b i:Nat):Nat:=fst8 k n b+i / 8*wid k (plc b)+i%8
theorem Y0a {k:Int} {n:Nat} (h:n<Yil k):0<acr k∧n%acr k<acr k∧n / acr k<dow k:=by
 have h0:0<acr k:=by
  rcases Nat.eq_zero_or_pos (acr k) with h1 | h1
  ·unfold Yil at h;rw [h1,Nat.zero_mul] at h;cases h
  ·exact h1
 exact ⟨h0,Nat.mod_lt _ h0,Nat.div_lt_of_lt_mul h⟩
end Go.Proofs.YtgikochfffdpfaaGreatDoor
namespace Go.Proofs.YtgikochfffdpfaaGreatDoor
open Go.RowKit
def Qbo (k n:Int):Bool:=decide (0≤n)&&decide (n<(Yil k:Int))
theorem Y89 {k n:Int}:Qbo k n=true↔0≤n∧n.toNat<Yil k:=by
 unfold Qbo
 simp
 omega
def Yid (c m:Nat) (v:Int):Bool:=decide (-32≤v∧v≤31)&&decide (0≤32*(c:Int)+v∧32*(c:Int)+v+30≤32*(m:Int)-2)
def Y48 (k n a b:Int):Bool:=Qbo k n&&(Yid (n.toNat%acr k) (acr k) a&&Yid (n.toNat / acr k) (dow k) b)
set_option maxHeartbeats 400000 in
theorem Ymz (a b c:Int) (w:World):
  Calls Tryz.prog 118 #[.int .i64 a,.int .i64 b,.int .i64 c] w fun e w'=> e = .returned (.int .i64 (Yk6 a b c))∧w=w':=by
 go_enter Tryz.func118,Tryz.ntmps118
 go_wp2
 all_goals (go_ret;exact ⟨Yde (by unfold Yk6;omega),rfl⟩)
set_option maxHeartbeats 400000 in
theorem Yc9 (n:Int) (w:World):
  Calls Tryz.prog 147 #[.int .i64 n] w fun e w'=> e = .returned (.int .i64 (Ybu n))∧w=w':=by
 have ha:=Qbc n
 have h1:0≤n%64:=by omega
 have h2:n%64≤63:=by omega
 go_enter Tryz.func147,Tryz.ntmps147
 go_wp2
 all_goals (go_ret;exact ⟨Yde (by unfold Ybu;omega),rfl⟩)
end Go.Proofs.YtgikochfffdpfaaGreatDoor