/- No condition. -/
import Derived.Test.YtnamlooifcpoaaaGreatDoorScreensNextMb
import Derived.Test.YtnamlooifcpoaaaGreatDoorScreensNextMc
import Derived.Test.YtnamlooifcpoaaaGreatDoorScreensNextMd
import Derived.Test.YtnamlooifcpoaaaGreatDoorScreensNextMj
namespace Go.Proofs.YtnamlooifcpoaaaGreatDoor
open Go.RowKit
theorem Y1f (p:Nat):gap p<8:=by unfold gap;omega
def Ywz (l:List UInt8)(bit:Int):Int×Int:=
 if bit<0∨8*(l.length:Int)<bit then (0,1) else if 8*(l.length:Int)-bit<22 then (0,2)
 else if Y31 l bit.toNat 22 / 32=1 then (((Y31 l bit.toNat 22%32:Nat):Int),0) else (0,4)
def hit (l:List UInt8)(i:Nat):Bool:=(Ywz l ((8*i:Nat):Int)).2==0&&((Ywz l ((8*i:Nat):Int)).1==0 || (Ywz l ((8*i:Nat):Int)).1==31)
def Yjw (n:Nat):List UInt8:=Ya5 (32+n) 22
theorem Ytr (n:Nat):Ya5 (((32+n:Nat):Int)).toNat (22:Int).toNat=Yjw n:=rfl
theorem Ykp (n:Nat):(Yjw n).length=22:=Yay _ _
def Ynx (r:List UInt8)(n:Nat):List UInt8:=r++List.replicate (gap r.length) 48++Yjw n
theorem Yme (r:List UInt8)(n:Nat):(Ynx r n).length=r.length+gap r.length+22:=by
 unfold Ynx;rw[List.length_append,List.length_append,List.length_replicate,Ykp]
structure Shd where
 ref:Int
 flags:Int
 fmt:Int
 inter:Bool
 quant:Int
 supp:List Int
def shdZ:Shd:=⟨0,0,0,false,0,[]⟩
def Ycp (b:Int):Bool:=decide (0≤b∧b≤255)
def Ycw (h:Shd):Bool:=decide (0≤h.ref∧h.ref≤255∧0≤h.flags∧h.flags≤7∧1≤h.quant∧h.quant≤31)&&Yb6 h.fmt&&(decide (h.supp.length≤8)&&h.supp.all Ycp)
theorem Yh9 {h:Shd}:Ycw h=true↔(0≤h.ref∧h.ref≤255∧0≤h.flags∧h.flags≤7∧1≤h.quant∧h.quant≤31)∧(1≤h.fmt∧h.fmt≤6)∧h.supp.length≤8∧∀b∈h.supp,0≤b∧b≤255:=by
 unfold Ycw Ycp Yb6;simp only[Bool.and_eq_true,decide_eq_true_iff,List.all_eq_true];constructor
 ·rintro⟨⟨a,b⟩,c,d⟩;exact⟨a,b,c,d⟩
 ·rintro⟨a,b,c,d⟩;exact⟨⟨a,b⟩,c,d⟩
def Y0y:List Int→List UInt8
 |[]=>[48]
 |b::l=>49::(Ya5 b.toNat 8++Y0y l)
def bitL (b:Bool):List UInt8:=Ya5 (if b then 1 else 0) 1
def Yyk (h:Shd):List UInt8:=
 Ya5 h.ref.toNat 8++(Ya5 2 2++(Ya5 h.flags.toNat 3++(Ya5 h.fmt.toNat 3++(bitL h.inter++(Ya5 0 4++(Ya5 h.quant.toNat 5++Ya5 0 1))))))
def Ysi (h:Shd):List UInt8:=Yyk h++Y0y h.supp
end Go.Proofs.YtnamlooifcpoaaaGreatDoor