/- No condition. -/
import Derived.Test.YtnamlooifcpoaaaGreatDoorScreensStillMc
import Derived.Test.YtnamlooifcpoaaaGreatDoorScreensStillMe
import Derived.Test.YtnamlooifcpoaaaGreatDoorScreensStillMj
import Derived.Test.YtnamlooifcpoaaaGreatDoorScreensStillMm
import Derived.WalkKit
import Derived.OwnWalk
import Derived.BigQuiet
namespace Go.Proofs.YtnamlooifcpoaaaGreatDoor
open Go.ChangeShapes Go.WideShapes Go.ChangeAt Go.RowKit
def Ycr (l:List ByteArray):List Value:=l.map .string
theorem Yku (l:List ByteArray)(x:ByteArray):Ycr (l++[x])=Ycr l++[.string x]:=by simp[Ycr]
theorem Yky {P:Program}{w:World}{ops:Array Oper}{rest:List Oper}{o:Oper}{a:Act}{Q:Exit→Act→World→Prop}{sl x:Operand}{t base e c:Nat}{i:TypeInfo}{z v:Value}{n:Nat}{xs:List Value}{K:Nat}{y0:ByteArray}
  (hgd:o.guard=none)(ho:o.op=.call {callee:=.builtin .append,args:=#[sl,x],argTypes:=#[t,t]})
  (ht:P.underlying t=some (.slice e))(hi:P.info? e=some i)(hz:i.zero=some z)(hzs:z.cells.size=1)(hsize:i.size=1)(hby:i.bytes=16)
  (hs:a.eval sl=v)(hown:w.ownsRow base e 1 v n xs)(hx:a.eval x=.slice (some ⟨K,0,none⟩) 1 c)(c0:w.cell? ⟨K,0,none⟩=some (.string y0))(hn:n≤1048576)(hbase:base≤w.heap.size)
  (h:∀v' w',w'.ownsRow base e 1 v' (n+1) (xs++[.string y0])→w.grownBy w' v.ownBlock→wpList P ops Q rest (a.put o.dst v') w'):wpList P ops Q (o::rest) a w:=
 wpList_append_own w hgd sl x t ho base e i z 1 16 ht hi hz hsize hby hzs (by decide) v n xs hs hown ⟨K,0,none⟩ 1 c [.string y0] hx rfl
  (fun j u hj=>by
   match j,hj with
   |0,hj=>cases hj;exact c0)
  (by intro u hu;rw[List.mem_singleton] at hu;subst hu;rfl) (by unfold maxLen;omega) (by omega) hbase
  fun v' w' h1 h2 _=>h v' w' h1 h2
theorem Yv7:(Tryz.prog.info? 9).map (fun i=>(i.zero,i.size,i.bytes))=some (some (.string ⟨#[]⟩),1,16):=by kernel_rfl
end Go.Proofs.YtnamlooifcpoaaaGreatDoor