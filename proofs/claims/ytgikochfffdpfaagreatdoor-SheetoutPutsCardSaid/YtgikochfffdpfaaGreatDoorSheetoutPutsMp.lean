/- Texts that SheetoutPuts's proof stands on, part 16 of 47. No condition of its own. -/
import Derived.Test.YtgikochfffdpfaaGreatDoorSheetoutPutsMc
import Derived.Test.YtgikochfffdpfaaGreatDoorSheetoutPutsMf
import Derived.RegionTactic
import Derived.Deep.RegionWith
namespace Go.Proofs.YtgikochfffdpfaaGreatDoor
open Go.RowKit Go.Lib
def Ybj (l:List UInt8):ByteArray:=⟨l.toArray⟩
theorem Yd0 (l m:List UInt8):Ybj l++Ybj m=Ybj (l++m):=by apply ByteArray.ext;simp [Ybj]
theorem Ybl (l:List UInt8):(Ybj l).size=l.length:=by simp [Ybj,ByteArray.size]
theorem Yub:∀n:Fin 32,[48,48,48,48,48,48,48,48,48,48,48,48,48,48,48,48,49]++Yak n.val 5=Ybb n.val:=by decide +kernel
theorem Ywj:(⟨#[48,48,48,48,48,48,48,48,48,48,48,48,48,48,48,48,49]⟩:ByteArray)=Ybj [48,48,48,48,48,48,48,48,48,48,48,48,48,48,48,48,49]:=rfl
set_option maxHeartbeats 1000000 in
theorem Ym9 (n:Nat) (h:n<32) (w:World):
  Calls Tryz.prog 63 #[.int .i64 (n:Int)] w fun e w'=> e = .returned (.string (Ybj (Ybb n)))∧w=w':=by
 have c:=fun w=> Ycp (n:Int) 5 (by omega) (by omega) (by decide) (by decide) w
 rw [Int.toNat_natCast,show (5:Int).toNat=5 from rfl] at c
 have E:(⟨#[48,48,48,48,48,48,48,48,48,48,48,48,48,48,48,48,49]⟩:ByteArray)++⟨(Yak n 5).toArray⟩=Ybj (Ybb n):=by
  rw [Ywj,←Yub ⟨n,h⟩]
  exact Yd0 _ _
 have hz:(⟨(Yak n 5).toArray⟩:ByteArray).size=5:=by rw [Yds,Yag]
 generalize (⟨(Yak n 5).toArray⟩:ByteArray)=R at c E hz
 have hz2:R.size≤5:=by omega
 have HE:=Lib.hid E
 clear h hz E
 go_enter Tryz.func63,Tryz.ntmps63
 go_wp2_with fail
 refine (c _).mono ?_
 rintro e w1 ⟨rfl,rfl⟩
 go_wp2
 go_ret
 rw [HE.out]
 exact ⟨rfl,rfl⟩
end Go.Proofs.YtgikochfffdpfaaGreatDoor