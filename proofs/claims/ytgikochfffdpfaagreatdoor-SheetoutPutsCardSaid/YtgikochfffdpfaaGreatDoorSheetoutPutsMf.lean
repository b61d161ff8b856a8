/- Texts that SheetoutPuts's proof stands on, part 6 of 47. No condition of its own. -/
import Derived.Test.YtgikochfffdpfaaGreatDoorSheetoutPutsMa
import Derived.Test.YtgikochfffdpfaaGreatDoorSheetoutPutsMc
import Derived.Test.YtgikochfffdpfaaGreatDoorSheetoutPutsMd
import Derived.Test.YtgikochfffdpfaaGreatDoorSheetoutPutsMe
namespace Go.Proofs.YtgikochfffdpfaaGreatDoor
open Go.RowKit
theorem Ym2 (p:Nat):gap p<8:=by unfold gap;omega
def Yt9 (l:List UInt8) (bit:Int):Int×Int:=
 if bit<0∨8*(l.length:Int)<bit then (0,1) else if 8*(l.length:Int)-bit<22 then (0,2)
 else if tell l bit.toNat 22 / 32=1 then (((tell l bit.toNat 22%32:Nat):Int),0) else (0,4)
def hit (l:List UInt8) (i:Nat):Bool:=(Yt9 l ((8*i:Nat):Int)).2==0&&((Yt9 l ((8*i:Nat):Int)).1==0 || (Yt9 l ((8*i:Nat):Int)).1==31)
def Ybb (n:Nat):List UInt8:=Yak (32+n) 22
theorem Yru (n:Nat):Yak (((32+n:Nat):Int)).toNat (22:Int).toNat=Ybb n:=rfl
theorem Ya9 (n:Nat):(Ybb n).length=22:=Yag _ _
theorem Yi9 (n:Nat):Yat (Ybb n)=true:=Yb5 _ _
def Ydy (r:List UInt8) (n:Nat):List UInt8:=r++List.replicate (gap r.length) 48++Ybb n
theorem Yek (r:List UInt8) (n:Nat):(Ydy r n).length=r.length+gap r.length+22:=by
 unfold Ydy
 rw [List.length_append,List.length_append,List.length_replicate,Ya9]
structure Shd where
 ref:Int
 flags:Int
 fmt:Int
 inter:Bool
 quant:Int
 supp:List Int
def shdZ:Shd:=⟨0,0,0,false,0,[]⟩
def Yb3 (b:Int):Bool:=decide (0≤b∧b≤255)
def Yb7 (h:Shd):Bool:=decide (0≤h.ref∧h.ref≤255∧0≤h.flags∧h.flags≤7∧1≤h.quant∧h.quant≤31)&&Yem h.fmt&&(decide (h.supp.length≤8)&&h.supp.all Yb3)
theorem Ycy {h:Shd}:Yb7 h=true↔(0≤h.ref∧h.ref≤255∧0≤h.flags∧h.flags≤7∧1≤h.quant∧h.quant≤31)∧(1≤h.fmt∧h.fmt≤6)∧h.supp.length≤8∧∀b∈h.supp,0≤b∧b≤255:=by
 unfold Yb7 Yb3 Yem
 simp only [Bool.and_eq_true,decide_eq_true_iff,List.all_eq_true]
 constructor
 ·rintro ⟨⟨a,b⟩,c,d⟩;exact ⟨a,b,c,d⟩
 ·rintro ⟨a,b,c,d⟩;exact ⟨⟨a,b⟩,c,d⟩
def Ykf:List Int→List UInt8
 | []=> [48]
 | b::l=> 49::(Yak b.toNat 8++Ykf l)
theorem Yia:∀l:List Int,(Ykf l).length=9*l.length+1
 | []=> rfl
 | b::l=> by
  rw [Ykf,List.length_cons,List.length_append,Yag,Yia l,List.length_cons];omega
theorem Yn4:∀l:List Int,Yat (Ykf l)=true
 | []=> rfl
 | b::l=> by
  rw [Ykf,show ((49:UInt8)::(Yak b.toNat 8++Ykf l)) = [49]++(Yak b.toNat 8++Ykf l) from rfl,Yam,Yam,Yb5,Yn4 l];rfl
def Yvq (b:Bool):List UInt8:=Yak (if b then 1 else 0) 1
def Yhl (h:Shd):List UInt8:=
 Yak h.ref.toNat 8++(Yak 2 2++(Yak h.flags.toNat 3++(Yak h.fmt.toNat 3++(Yvq h.inter++(Yak 0 4++(Yak h.quant.toNat 5++Yak 0 1))))))
def Ycf (h:Shd):List UInt8:=Yhl h++Ykf h.supp
theorem Ymd (h:Shd):(Yhl h).length=27:=by
 unfold Yhl Yvq
 simp only [List.length_append,Yag]
theorem Ysi (h:Shd):Yat (Yhl h)=true:=by
 unfold Yhl Yvq
 simp only [Yam,Yb5,Bool.and_self]
theorem Yer (h:Shd):(Ycf h).length=28+9*h.supp.length:=by
 unfold Ycf
 rw [List.length_append,Ymd,Yia];omega
theorem Ysj (h:Shd):Yat (Ycf h)=true:=by
 unfold Ycf
 rw [Yam,Ysi,Yn4];rfl
def Yd8 (id q:Nat):List UInt8:=Yak id 2++Yak q 5
theorem Yj8 (id q:Nat):(Yd8 id q).length=7:=by
 unfold Yd8
 rw [List.length_append,Yag,Yag]
theorem Yow (id q:Nat):Yat (Yd8 id q)=true:=by
 unfold Yd8
 rw [Yam,Yb5,Yb5];rfl
def Ycc (a n id q:Nat):List UInt8:=List.replicate (gap a) 48++Ybb n++Yd8 id q
theorem Yq1 (r:List UInt8) (n id q:Nat):Ydy r n++Yd8 id q=r++Ycc r.length n id q:=by
 unfold Ydy Ycc
 simp only [List.append_assoc]
theorem Yf5 (a n id q:Nat):(Ycc a n id q).length=gap a+29:=by
 unfold Ycc
 rw [List.length_append,List.length_append,List.length_replicate,Ya9,Yj8]
theorem Yov (a n id q:Nat):Yat (Ycc a n id q)=true:=by
 unfold Ycc
 rw [Yam,Yam,Yb8,Yi9,Yow];rfl
end Go.Proofs.YtgikochfffdpfaaGreatDoor