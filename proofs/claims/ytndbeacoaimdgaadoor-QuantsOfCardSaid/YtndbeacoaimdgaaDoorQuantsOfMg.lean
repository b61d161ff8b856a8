/- No condition. -/
import Derived.Test.YtndbeacoaimdgaaDoorQuantsOfMb
import Derived.Test.YtndbeacoaimdgaaDoorQuantsOfMd
import Derived.Test.YtndbeacoaimdgaaDoorQuantsOfMe
import Derived.Test.YtndbeacoaimdgaaDoorQuantsOfMf
namespace Go.Proofs.YtndbeacoaimdgaaDoor
open Go.RowKit
theorem Yp1 (p:Nat):gap p<8:=by unfold gap;omega
def Ynk (l:List UInt8)(bit:Int):Int×Int:=
 if bit<0∨8*(l.length:Int)<bit then (0,1) else if 8*(l.length:Int)-bit<22 then (0,2)
 else if Yrl l bit.toNat 22 / 32=1 then (((Yrl l bit.toNat 22%32:Nat):Int),0) else (0,4)
def hit (l:List UInt8)(i:Nat):Bool:=(Ynk l ((8*i:Nat):Int)).2==0&&((Ynk l ((8*i:Nat):Int)).1==0 || (Ynk l ((8*i:Nat):Int)).1==31)
def Yf3 (n:Nat):List UInt8:=Yar (32+n) 22
theorem Yls (n:Nat):Yar (((32+n:Nat):Int)).toNat (22:Int).toNat=Yf3 n:=rfl
theorem Ygl (n:Nat):(Yf3 n).length=22:=Yam _ _
def Yig (r:List UInt8)(n:Nat):List UInt8:=r++List.replicate (gap r.length) 48++Yf3 n
theorem Yhm (r:List UInt8)(n:Nat):(Yig r n).length=r.length+gap r.length+22:=by
 unfold Yig;rw[List.length_append,List.length_append,List.length_replicate,Ygl]
structure Shd where
 ref:Int
 flags:Int
 fmt:Int
 inter:Bool
 quant:Int
 supp:List Int
def shdZ:Shd:=⟨0,0,0,false,0,[]⟩
def Ybd (b:Int):Bool:=decide (0≤b∧b≤255)
def Ybj (h:Shd):Bool:=decide (0≤h.ref∧h.ref≤255∧0≤h.flags∧h.flags≤7∧1≤h.quant∧h.quant≤31)&&Yc3 h.fmt&&(decide (h.supp.length≤8)&&h.supp.all Ybd)
theorem Yev {h:Shd}:Ybj h=true↔(0≤h.ref∧h.ref≤255∧0≤h.flags∧h.flags≤7∧1≤h.quant∧h.quant≤31)∧(1≤h.fmt∧h.fmt≤6)∧h.supp.length≤8∧∀b∈h.supp,0≤b∧b≤255:=by
 unfold Ybj Ybd Yc3;simp only[Bool.and_eq_true,decide_eq_true_iff,List.all_eq_true];constructor
 ·rintro⟨⟨a,b⟩,c,d⟩;exact⟨a,b,c,d⟩
 ·rintro⟨a,b,c,d⟩;exact⟨⟨a,b⟩,c,d⟩
def Ypr:List Int→List UInt8
 |[]=>[48]
 |b::l=>49::(Yar b.toNat 8++Ypr l)
def bitL (b:Bool):List UInt8:=Yar (if b then 1 else 0) 1
def Yn8 (h:Shd):List UInt8:=
 Yar h.ref.toNat 8++(Yar 2 2++(Yar h.flags.toNat 3++(Yar h.fmt.toNat 3++(bitL h.inter++(Yar 0 4++(Yar h.quant.toNat 5++Yar 0 1))))))
def Yk6 (h:Shd):List UInt8:=Yn8 h++Ypr h.supp
end Go.Proofs.YtndbeacoaimdgaaDoor