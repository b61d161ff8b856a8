/- Texts that SheetinTakes's proof stands on, part 2 of 52. No condition of its own. -/
import Derived.Below
import Derived.OwnWalk
import Derived.Lib.AppendStr
import Derived.Laws.IdiomStrings
import Derived.Laws.BytesArg
namespace Go.Proofs.YtpgdngijmihafaaGreatDoor
open Go.RowKit
def Yca (l:List UInt8):List Value:=l.map fun b=> Value.int .u8 (b.toNat:Int)
theorem Yin (l m:List UInt8):Yca (l++m)=Yca l++Yca m:=by simp [Yca]
def Ycp (w:World) (base:Nat) (e:TypeId) (v:Value) (l:List UInt8):Prop:=w.ownsRow base e 1 v l.length (Yca l)
theorem Ycp.nil (w:World) (base:Nat) (e:TypeId):Ycp w base e (.slice none 0 0) []:=World.ownsRow_nil _ _ _ _
theorem Ycp.grow {w:World} {base:Nat} {e:TypeId} {v:Value} {l m:List UInt8} {n:Nat} {xs:List Value} (hn:n=l.length+m.length) (hx:xs=Yca l++Yca m)
  (h:w.ownsRow base e 1 v n xs):Ycp w base e v (l++m):=by
 unfold Ycp
 rw [Yin,List.length_append,←hx,←hn]
 exact h
section
variable {P:Program}
theorem Ycp.text {w:World} {base:Nat} {e src dst:TypeId} {v:Value} {l:List UInt8} (hs:P.underlying src=some (.slice e)) (he:P.underlying e=some (.int .u8)) (hd:P.underlying dst=some .string)
  (h:Ycp w base e v l):(convert src dst v).run P w = .ok (.string ⟨l.toArray⟩) w:=by
 rcases h.2 with ⟨rfl,hl⟩ | ⟨g,cap,cur,rfl,_,hh,_,_,_,ht⟩
 ·have:l = []:=List.eq_nil_of_length_eq_zero hl
  subst this
  exact run_convert_bytes_nil w src e hs he 0 0 dst hd
 ·refine run_convert_bytes_back w src dst e ⟨g,0,none⟩ cap l hs he hd fun j hj=> ?_
  have hc:=World.ownsRow.cells (g:=g) h rfl j (.int .u8 (l[j].toNat:Int)) (by simp [Yca,hj])
  exact hc
theorem Yn3 {w:World} {ops:Array Oper} {rest:List Oper} {o:Oper} {a:Act} {Q:Exit→Act→World→Prop} {sl x:Operand} {t u base e:Nat} {i:TypeInfo} {v:Value} {l:List UInt8} {s:ByteArray}
  (hgd:o.guard=none) (ho:o.op = .call {callee:=.builtin .append,args:=#[sl,x],argTypes:=#[t,u]})
  (ht:P.underlying t=some (.slice e)) (hu:P.underlying u=some .string) (hi:P.info? e=some i) (hz:i.zero=some (.int .u8 0)) (hsize:i.size=1) (hby:i.bytes=1)
  (hs:a.eval sl=v) (hown:Ycp w base e v l) (hx:a.eval x = .string s) (hbytes:l.length+s.data.toList.length≤140737488355328) (hbase:base≤w.heap.size)
  (h:∀v' w',Ycp w' base e v' (l++s.data.toList)→w.grownBy w' v.ownBlock→wpList P ops Q rest (a.put o.dst v') w'):wpList P ops Q (o::rest) a w:=
 Lib.wpList_append_own_string w hgd sl x t u ho base e i ht hu hi hz hsize hby v _ _ hs hown s hx (by have e:s.size=s.data.toList.length:=Array.length_toList.symm;unfold maxLen;omega) (by have e:s.size=s.data.toList.length:=Array.length_toList.symm;omega) hbase fun v' w' h1 h2 _=>
  h v' w' (Ycp.grow (by simp) rfl h1) h2
end
end Go.Proofs.YtpgdngijmihafaaGreatDoor