/- No condition. -/
import Derived.Test.YtnamlooifcpoaaaGreatDoorScreensStillMb
import Derived.Test.YtnamlooifcpoaaaGreatDoorScreensStillMc
import Derived.Test.YtnamlooifcpoaaaGreatDoorScreensStillMd
import Derived.Test.YtnamlooifcpoaaaGreatDoorScreensStillMj
namespace Go.Proofs.YtnamlooifcpoaaaGreatDoor
open Go.RowKit
theorem Yx0 (p:Nat):gap p<8:=by unfold gap;omega
def Ys9 (l:List UInt8)(bit:Int):Int×Int:=
 if bit<0∨8*(l.length:Int)<bit then (0,1) else if 8*(l.length:Int)-bit<22 then (0,2)
 else if Y0q l bit.toNat 22 / 32=1 then (((Y0q l bit.toNat 22%32:Nat):Int),0) else (0,4)
def hit (l:List UInt8)(i:Nat):Bool:=(Ys9 l ((8*i:Nat):Int)).2==0&&((Ys9 l ((8*i:Nat):Int)).1==0 || (Ys9 l ((8*i:Nat):Int)).1==31)
def Yhk (n:Nat):List UInt8:=Yav (32+n) 22
theorem Yp9 (n:Nat):Yav (((32+n:Nat):Int)).toNat (22:Int).toNat=Yhk n:=rfl
theorem Yie (n:Nat):(Yhk n).length=22:=Yap _ _
def Ylh (r:List UInt8)(n:Nat):List UInt8:=r++List.replicate (gap r.length) 48++Yhk n
theorem Yj5 (r:List UInt8)(n:Nat):(Ylh r n).length=r.length+gap r.length+22:=by
 unfold Ylh;rw[List.length_append,List.length_append,List.length_replicate,Yie]
structure Shd where
 ref:Int
 flags:Int
 fmt:Int
 inter:Bool
 quant:Int
 supp:List Int
def Yd7 (b:Int):Bool:=decide (0≤b∧b≤255)
def Ycy (h:Shd):Bool:=decide (0≤h.ref∧h.ref≤255∧0≤h.flags∧h.flags≤7∧1≤h.quant∧h.quant≤31)&&Ybr h.fmt&&(decide (h.supp.length≤8)&&h.supp.all Yd7)
theorem Yjp {h:Shd}:Ycy h=true↔(0≤h.ref∧h.ref≤255∧0≤h.flags∧h.flags≤7∧1≤h.quant∧h.quant≤31)∧(1≤h.fmt∧h.fmt≤6)∧h.supp.length≤8∧∀b∈h.supp,0≤b∧b≤255:=by
 unfold Ycy Yd7 Ybr;simp only[Bool.and_eq_true,decide_eq_true_iff,List.all_eq_true];constructor
 ·rintro⟨⟨a,b⟩,c,d⟩;exact⟨a,b,c,d⟩
 ·rintro⟨a,b,c,d⟩;exact⟨⟨a,b⟩,c,d⟩
def Yxg:List Int→List UInt8
 |[]=>[48]
 |b::l=>49::(Yav b.toNat 8++Yxg l)
def bitL (b:Bool):List UInt8:=Yav (if b then 1 else 0) 1
def Yur (h:Shd):List UInt8:=
 Yav h.ref.toNat 8++(Yav 2 2++(Yav h.flags.toNat 3++(Yav h.fmt.toNat 3++(bitL h.inter++(Yav 0 4++(Yav h.quant.toNat 5++Yav 0 1))))))
def Yo9 (h:Shd):List UInt8:=Yur h++Yxg h.supp
end Go.Proofs.YtnamlooifcpoaaaGreatDoor