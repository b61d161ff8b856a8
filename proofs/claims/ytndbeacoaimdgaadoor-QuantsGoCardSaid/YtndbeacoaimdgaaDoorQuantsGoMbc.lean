/- No condition. -/
import Derived.Test.YtndbeacoaimdgaaDoorQuantsGoMm
import Derived.Test.YtndbeacoaimdgaaDoorQuantsGoMs
import Derived.OwnWalk
import Derived.Laws.AppendOwn
import Derived.Laws.AppendOwnNone
import Derived.Deep.MidRow
namespace Go.Proofs.YtndbeacoaimdgaaDoor
open Go.RowKit Go.Lib
theorem Ykl.shape {w:World}{c:Cel}{vs:List Value}(h:Ykl w c vs):vs.length=18∧∀u∈vs,u.oneCell'=true:=by
 obtain⟨p,cap,rfl,-,-⟩:=h;refine⟨rfl,fun u hu=>?_⟩;simp only[Ybe,List.mem_cons,List.not_mem_nil,or_false] at hu;rcases hu with rfl|rfl|rfl|rfl|rfl|rfl|rfl|rfl|rfl|rfl|rfl|rfl|rfl|rfl|rfl|rfl|rfl|rfl <;> rfl
theorem Ybv {ops:Array Oper}{rest:List Oper}{op:Oper}{a:Act}{w:World}{Q:Exit→Act→World→Prop}(hgd:op.guard=none)(x:Operand)(ho:op.op=.load 42 x)
  (b o:Nat)(hx:a.eval x=.pointer (some ⟨b,o,none⟩))(vs:List Value)(hc:w.rangeAt b o vs)(hl:vs.length=18)(h:wpList Tryd.prog ops Q rest (a.put op.dst (.agg vs.toArray)) w):wpList Tryd.prog ops Q (op::rest) a w:=
 wpList_load_mid hgd _ x ho b o hx vs _ hc Tryd.underlying42 rfl (by rw[hl];kernel_rfl) h
theorem Yc2 {ops:Array Oper}{rest:List Oper}{op:Oper}{a:Act}{w:World}{Q:Exit→Act→World→Prop}(hgd:op.guard=none)(x:Operand)(ho:op.op=.load 36 x)
  (b o:Nat)(hx:a.eval x=.pointer (some ⟨b,o,none⟩))(vs:List Value)(hc:w.rangeAt b o vs)(hl:vs.length=4)(h:wpList Tryd.prog ops Q rest (a.put op.dst (.agg vs.toArray)) w):wpList Tryd.prog ops Q (op::rest) a w:=
 wpList_load_mid hgd _ x ho b o hx vs _ hc Tryd.underlying36 rfl (by rw[hl];kernel_rfl) h
theorem Ye6 {ops:Array Oper}{rest:List Oper}{op:Oper}{a:Act}{w:World}{Q:Exit→Act→World→Prop}(hw:Region.wanted op (yielded ops a.tmps)=true)(x:Operand)(ho:op.op=.load 38 x)
  (b o:Nat)(hx:a.eval x=.pointer (some ⟨b,o,none⟩))(u v:Int)(hc:w.rangeAt b o [.int .i64 u,.int .i64 v])(h:wpList Tryd.prog ops Q rest (a.put op.dst (.agg (Ype u v))) w):wpList Tryd.prog ops Q (op::rest) a w:=by
 unfold wpList;rw[if_pos hw];exact .inl (wp_load_mid _ x ho b o hx [.int .i64 u,.int .i64 v] _ hc Tryd.underlying38 rfl (by kernel_rfl) h)
theorem Yde {P:Program}{T:TypeId}{Z:Array Value}(h:(P.info? T).map (fun i=>i.zero)=some (some (.agg Z)))(w:World):(zeroValue T).run P w=.ok (.agg Z) w:=by
 cases hq:P.info? T with
 |none=>rw[hq] at h;cases h
 |some i=>
  rw[hq] at h;have h:i.zero=some (.agg Z):=by simpa using h
  simp[zeroValue,typeInfo,hq,h]
theorem Ydk:∃Y:Array Value,Y.size=18∧∀w,(zeroValue 42).run Tryd.prog w=.ok (.agg Y) w:=⟨(Ybe Yps Ygp).toArray,rfl,Yde (by kernel_rfl)⟩
theorem Yhm:∃Y:Array Value,Y.size=4∧∀w,(zeroValue 36).run Tryd.prog w=.ok (.agg Y) w:=⟨#[.bool false,.int .i64 0,.int .i64 0,.slice none 0 0],rfl,Yde (by kernel_rfl)⟩
theorem Ydo {w:World}{c:Cel}{vs:List Value}(h:Ykl w c vs):vs.toArray.all (·.oneCell')=true:=by
 rw[Array.all_eq_true_iff_forall_mem];exact fun u hu=>h.shape.2 u (by simpa using hu)
end Go.Proofs.YtndbeacoaimdgaaDoor