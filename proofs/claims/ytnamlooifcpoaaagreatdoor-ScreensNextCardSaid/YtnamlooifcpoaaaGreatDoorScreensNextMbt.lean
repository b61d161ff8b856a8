/- No condition. -/
import Derived.Test.YtnamlooifcpoaaaGreatDoorScreensNextMg
import Derived.Deep.MidRow
namespace Go.Proofs.YtnamlooifcpoaaaGreatDoor
open Go
theorem Yro {P:Program}{ops:Array Oper}{rest:List Oper}{S:World→Prop}{Q:Act→Prop}{o:Oper}{a:Act}(ty:TypeId)(x:Operand)(b p:Nat)(cs:List Value)(d:TypeDesc)(hw:Region.wanted o (yielded ops a.tmps)=true)(ho:o.op=.load ty x)(hx:a.eval x=.pointer (some ⟨b,p,none⟩))
  (hc:∀w,S w→w.rangeAt b p cs)(hu:P.underlying ty=some d)(hd:d.isRow=true)(hi:(P.info? ty).map (·.size)=some cs.length)(h:Yd8 P ops S Q rest (a.put o.dst (.agg cs.toArray))):Yd8 P ops S Q (o::rest) a:=
 Yab hw (fun w hS=>by
  unfold execOp;simp only[ho,hx,Instr.loadAt,Instr.sureAddr,Sem.run_bind,Sem.run_pure,Result.andThen_ok,run_loadVar_mid w b p ty cs d (hc w hS) hu hd hi]) h
end Go.Proofs.YtnamlooifcpoaaaGreatDoor