/- No condition. -/
import Derived.Test.YtndbeacoaimdgaaDoorQuantsGoMb
import Derived.Test.YtndbeacoaimdgaaDoorQuantsGoMd
import Derived.Test.YtndbeacoaimdgaaDoorQuantsGoMe
import Derived.Test.YtndbeacoaimdgaaDoorQuantsGoMf
namespace Go.Proofs.YtndbeacoaimdgaaDoor
open Go.RowKit
theorem Yn7 (p:Nat):gap p<8:=by unfold gap;omega
def Ylk (l:List UInt8)(bit:Int):Int×Int:=
 if bit<0∨8*(l.length:Int)<bit then (0,1) else if 8*(l.length:Int)-bit<22 then (0,2)
 else if Ypy l bit.toNat 22 / 32=1 then (((Ypy l bit.toNat 22%32:Nat):Int),0) else (0,4)
def hit (l:List UInt8)(i:Nat):Bool:=(Ylk l ((8*i:Nat):Int)).2==0&&((Ylk l ((8*i:Nat):Int)).1==0 || (Ylk l ((8*i:Nat):Int)).1==31)
def Yes (n:Nat):List UInt8:=Yal (32+n) 22
theorem Yju (n:Nat):Yal (((32+n:Nat):Int)).toNat (22:Int).toNat=Yes n:=rfl
theorem Ye9 (n:Nat):(Yes n).length=22:=Yai _ _
def Ygx (r:List UInt8)(n:Nat):List UInt8:=r++List.replicate (gap r.length) 48++Yes n
theorem Yf8 (r:List UInt8)(n:Nat):(Ygx r n).length=r.length+gap r.length+22:=by
 unfold Ygx;rw[List.length_append,List.length_append,List.length_replicate,Ye9]
structure Shd where
 ref:Int
 flags:Int
 fmt:Int
 inter:Bool
 quant:Int
 supp:List Int
def shdZ:Shd:=⟨0,0,0,false,0,[]⟩
def Yce (b:Int):Bool:=decide (0≤b∧b≤255)
def Ybt (h:Shd):Bool:=decide (0≤h.ref∧h.ref≤255∧0≤h.flags∧h.flags≤7∧1≤h.quant∧h.quant≤31)&&Yep h.fmt&&(decide (h.supp.length≤8)&&h.supp.all Yce)
theorem Yfx {h:Shd}:Ybt h=true↔(0≤h.ref∧h.ref≤255∧0≤h.flags∧h.flags≤7∧1≤h.quant∧h.quant≤31)∧(1≤h.fmt∧h.fmt≤6)∧h.supp.length≤8∧∀b∈h.supp,0≤b∧b≤255:=by
 unfold Ybt Yce Yep;simp only[Bool.and_eq_true,decide_eq_true_iff,List.all_eq_true];constructor
 ·rintro⟨⟨a,b⟩,c,d⟩;exact⟨a,b,c,d⟩
 ·rintro⟨a,b,c,d⟩;exact⟨⟨a,b⟩,c,d⟩
def Yn1:List Int→List UInt8
 |[]=>[48]
 |b::l=>49::(Yal b.toNat 8++Yn1 l)
def bitL (b:Bool):List UInt8:=Yal (if b then 1 else 0) 1
def Yme (h:Shd):List UInt8:=
 Yal h.ref.toNat 8++(Yal 2 2++(Yal h.flags.toNat 3++(Yal h.fmt.toNat 3++(bitL h.inter++(Yal 0 4++(Yal h.quant.toNat 5++Yal 0 1))))))
def Yi7 (h:Shd):List UInt8:=Yme h++Yn1 h.supp
end Go.Proofs.YtndbeacoaimdgaaDoor