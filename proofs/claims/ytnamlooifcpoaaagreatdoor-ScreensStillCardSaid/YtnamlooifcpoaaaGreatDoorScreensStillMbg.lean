/- No condition. -/
import Derived.Test.YtnamlooifcpoaaaGreatDoorScreensStillMa
import Derived.Test.YtnamlooifcpoaaaGreatDoorScreensStillMe
import Derived.Test.YtnamlooifcpoaaaGreatDoorScreensStillMf
import Derived.Test.YtnamlooifcpoaaaGreatDoorScreensStillMg
import Derived.Test.YtnamlooifcpoaaaGreatDoorScreensStillMh
import Derived.Test.YtnamlooifcpoaaaGreatDoorScreensStillMj
import Derived.Test.YtnamlooifcpoaaaGreatDoorScreensStillMk
import Derived.Test.YtnamlooifcpoaaaGreatDoorScreensStillMbf
import Derived.RegionTactic
import Derived.Deep.RegionWith
import Derived.Deep.CutRange
import Derived.Deep.DeepCutAuto
import Derived.OwnWalk
import Derived.Laws.AppendOwn
import Derived.Laws.AppendOwnNone
import Derived.Deep.MidRow
namespace Go.Proofs.YtnamlooifcpoaaaGreatDoor
open Go.RowKit Go.Lib Go.ChangeShapes Go.WideShapes Go.ChangeAt
def Ydf {α:Type}(c:Nat)(V:World→α→List Value→Prop)(w:World)(q:Option Addr)(l:List α):Prop:=
 l=[]∨∃b o,q=some ⟨b,o,none⟩∧b<w.heap.size∧∀i,(h:i<l.length)→∃vs,V w l[i] vs∧∀(j:Nat) v,vs[j]? =some v→w.cell? ⟨b,o+i*c+j,none⟩=some v
theorem Ydf.below {α:Type}{c:Nat}{V:World→α→List Value→Prop}{w x:World}{q:Option Addr}{l:List α}(h:Ydf c V w q l)(hV:∀a vs,V w a vs→V x a vs)(hb:Below w.heap.size w x):Ydf c V x q l:=by
 rcases h with h|⟨b,o,rfl,hl,h⟩
 ·exact .inl h
 ·refine .inr ⟨b,o,rfl,Nat.lt_of_lt_of_le hl hb.size,fun i hi=>?_⟩;obtain⟨vs,h1,h2⟩:=h i hi;exact⟨vs,hV _ _ h1,fun j v hj=>(World.cell?_of_block (a:=⟨b,o+i*c+j,none⟩) (hb.block b hl)).trans (h2 j v hj)⟩
instance:Inhabited Cel:=⟨Yzv⟩
def Yrh (w:World)(c:Cel)(vs:List Value):Prop:=
 ∃(p:Nat→Option Addr) (cap:Nat→Nat),vs=Ybp c (fun i=>.slice (p i) (c.ev i).length (cap i))∧((Lit.int .i64 c.mx).wf=true∧(Lit.int .i64 c.my).wf=true)∧∀i,i<6→(c.ev i).length≤maxLen∧Yex w (p i) (c.ev i)
theorem Yrh.below {w x:World}(hb:Below w.heap.size w x)(c:Cel)(vs:List Value)(h:Yrh w c vs):Yrh x c vs:=by
 obtain⟨p,cap,h1,h2,h3⟩:=h;exact⟨p,cap,h1,h2,fun i hi=>⟨(h3 i hi).1,(h3 i hi).2.below hb⟩⟩
def Ygg:World→Option Addr→List Cel→Prop:=Ydf 18 Yrh
theorem Ygg.below {w x:World}{q:Option Addr}{l:List Cel}(h:Ygg w q l)(hb:Below w.heap.size w x):Ygg x q l:=Ydf.below h (Yrh.below hb) hb
structure RowP where
 head:Bool
 id:Int
 quant:Int
 cels:List Cel
instance:Inhabited RowP:=⟨⟨false,0,0,[]⟩⟩
def Yzu (w:World)(r:RowP)(vs:List Value):Prop:=
 ∃(q:Option Addr) (cap:Nat),vs=[.bool r.head,.int .i64 r.id,.int .i64 r.quant,.slice q r.cels.length cap]∧(q=none→cap=0)∧r.cels.length≤maxLen∧Ygg w q r.cels
theorem Yzu.below {w x:World}(hb:Below w.heap.size w x)(r:RowP)(vs:List Value)(h:Yzu w r vs):Yzu x r vs:=by
 obtain⟨q,cap,h1,h0,h2,h3⟩:=h;exact⟨q,cap,h1,h0,h2,h3.below hb⟩
def Ydh:World→Option Addr→List RowP→Prop:=Ydf 4 Yzu
theorem Ydh.below {w x:World}{q:Option Addr}{l:List RowP}(h:Ydh w q l)(hb:Below w.heap.size w x):Ydh x q l:=Ydf.below h (Yzu.below hb) hb
structure ShP where
 hd:Shd
 rows:List RowP
 zeros:Int
section
variable {H:Type}{enc:TypeId×Value→H}{P:Program}
end
end Go.Proofs.YtnamlooifcpoaaaGreatDoor
namespace Go.Proofs.YtnamlooifcpoaaaGreatDoor
open Go.RowKit Go.Lib
theorem Yos {α:Type}{c:Nat}:∀(xs:List (List α)),(∀x∈xs,x.length=c)→∀(i:Nat) (h:i<xs.length) (j:Nat),j<c→xs.flatten[i*c+j]? =xs[i][j]?
 |[],_,i,h,_,_=>absurd h (Nat.not_lt_zero i)
 |x::xs,hx,0,_,j,hj=>by
  rw[List.flatten_cons,Nat.zero_mul,Nat.zero_add,List.getElem?_append_left (by rw[hx x (List.mem_cons_self ..)];exact hj)]
  rfl
 |x::xs,hx,i+1,h,j,hj=>by
  have hl:=hx x (List.mem_cons_self ..);rw[List.flatten_cons,List.getElem?_append_right (by rw[hl,Nat.add_mul];omega),hl,show (i+1)*c+j-c=i*c+j by rw[Nat.add_mul];omega];exact Yos xs (fun y hy=>hx y (List.mem_cons_of_mem _ hy)) i (by simpa using h) j hj
def Yxw {α:Type}(c:Nat)(V:α→List Value→Prop)(l:List α)(xs:List (List Value)):Prop:=
 xs.length=l.length∧(∀x∈xs,x.length=c)∧∀i,(h:i<l.length)→∃x,xs[i]? =some x∧V l[i] x
theorem Yxw.nil {α:Type}(c:Nat)(V:α→List Value→Prop):Yxw c V [] []:=⟨rfl,(fun x h=>by cases h),fun i h=>absurd h (Nat.not_lt_zero i)⟩
theorem Yxw.app {α:Type}{c:Nat}{V:α→List Value→Prop}{l m:List α}{xs ys:List (List Value)}(h:Yxw c V l xs)(k:Yxw c V m ys):Yxw c V (l++m) (xs++ys):=by
 obtain⟨h1,h2,h3⟩:=h;obtain⟨k1,k2,k3⟩:=k;refine⟨by rw[List.length_append,List.length_append,h1,k1],fun x hx=>?_,fun i hi=>?_⟩
 ·rcases List.mem_append.1 hx with hx|hx
  ·exact h2 x hx
  ·exact k2 x hx
 ·by_cases hl:i<l.length
  ·obtain⟨x,e,hv⟩:=h3 i hl;exact⟨x,by rw[List.getElem?_append_left (by omega)];exact e,by rw[List.getElem_append_left hl];exact hv⟩
  ·rw[List.length_append] at hi;obtain⟨x,e,hv⟩:=k3 (i-l.length) (by omega);exact⟨x,by rw[List.getElem?_append_right (by omega),h1];exact e,by rw[List.getElem_append_right (by omega)];exact hv⟩
def Ydg {α:Type}(c:Nat)(e:TypeId)(V:α→List Value→Prop)(w:World)(base:Nat)(v:Value)(l:List α):Prop:=
 ∃xs,Yxw c V l xs∧w.ownsRow base e c v l.length xs.flatten
theorem Ydg.nil {α:Type}(c:Nat)(e:TypeId)(V:α→List Value→Prop)(w:World)(base:Nat):Ydg c e V w base (.slice none 0 0) ([]:List α):=⟨[],Yxw.nil c V,World.ownsRow_nil _ _ _ _⟩
theorem Ydg.kept {α:Type}{c:Nat}{e:TypeId}{V:α→List Value→Prop}{w w':World}{base:Nat}{v:Value}{l:List α}{row:Option Nat}(h:Ydg c e V w base v l)(hg:w.grownBy w' row)(hne:v.ownBlock=none∨v.ownBlock≠row):Ydg c e V w' base v l:=by
 obtain⟨xs,h1,h2⟩:=h;exact⟨xs,h1,h2.kept hg hne⟩
theorem Ydg.below {α:Type}{c:Nat}{e:TypeId}{V:α→List Value→Prop}{w w':World}{base:Nat}{v:Value}{l:List α}(h:Ydg c e V w base v l)(hb:Below w.heap.size w w'):Ydg c e V w' base v l:=
 h.kept (Yao hb none) (by cases hv:v.ownBlock with|none=>exact .inl rfl|some g=>exact .inr (by simp))
theorem Ydg.fresh {α:Type}{c:Nat}{e:TypeId}{V:α→List Value→Prop}{w:World}{base:Nat}{v:Value}{l:List α}(h:Ydg c e V w base v l):∀k,v.ownBlock=some k→base≤k:=by
 obtain⟨xs,_,h2⟩:=h;exact Yqb h2
theorem Ydg.many {α:Type}{c:Nat}{e:TypeId}{V:α→List Value→Prop}{V':World→α→List Value→Prop}{w:World}{base:Nat}{v:Value}{l:List α}(h:Ydg c e V w base v l)(hV:∀a vs,V a vs→V' w a vs):
  ∃(q:Option Addr) (cap:Nat),v=.slice q l.length cap∧Ydf c V' w q l:=by
 obtain⟨xs,⟨h1,h2,h3⟩,h0⟩:=h;have h0':=h0;rcases h0.2 with ⟨rfl,hn⟩|⟨g,cap,cur,rfl,_,hg,_⟩
 ·exact⟨none,0,by rw[hn],.inl (List.eq_nil_of_length_eq_zero hn)⟩
 ·refine⟨_,cap,rfl,.inr ⟨g,0,rfl,(Array.getElem?_eq_some_iff.1 hg).1,fun i hi=>?_⟩⟩;obtain⟨x,e1,hv⟩:=h3 i hi;refine⟨x,hV _ _ hv,fun j u hj=>?_⟩;have hx:x.length=c:=h2 x (List.mem_of_getElem? e1);have hjc:j<c:=by rw[←hx];exact(List.getElem?_eq_some_iff.1 hj).1
  have hf:=Yos xs h2 i (by omega) j hjc;have e2:xs[i]'(by omega)=x:=by
   have:=List.getElem?_eq_getElem (l:=xs) (i:=i) (by omega);rw[this] at e1;injection e1
  rw[e2,hj] at hf;have:=World.ownsRow.cells (g:=g) h0' rfl (i*c+j) u hf;rw[Addr.add_mid] at this;rw[Nat.zero_add] at this ⊢;exact this
theorem Ydg.less {α:Type}{c:Nat}{e:TypeId}{V:α→List Value→Prop}{w:World}{base base':Nat}{v:Value}{l:List α}(h:Ydg c e V w base v l)(hb:base'≤base):Ydg c e V w base' v l:=by
 obtain⟨xs,h1,h2,h3⟩:=h;refine⟨xs,h1,h2,?_⟩;rcases h3 with h3|⟨g,cap,cur,e1,hg,h4⟩
 ·exact .inl h3
 ·exact .inr ⟨g,cap,cur,e1,Nat.le_trans hb hg,h4⟩
theorem Yrh.shape {w:World}{c:Cel}{vs:List Value}(h:Yrh w c vs):vs.length=18∧∀u∈vs,u.oneCell'=true:=by
 obtain⟨p,cap,rfl,-,-⟩:=h;refine⟨rfl,fun u hu=>?_⟩;simp only[Ybp,List.mem_cons,List.not_mem_nil,or_false] at hu;rcases hu with rfl|rfl|rfl|rfl|rfl|rfl|rfl|rfl|rfl|rfl|rfl|rfl|rfl|rfl|rfl|rfl|rfl|rfl <;> rfl
theorem Yci {ops:Array Oper}{rest:List Oper}{op:Oper}{a:Act}{w:World}{Q:Exit→Act→World→Prop}(hgd:op.guard=none)(x:Operand)(ho:op.op=.load 48 x)
  (b o:Nat)(hx:a.eval x=.pointer (some ⟨b,o,none⟩))(vs:List Value)(hc:w.rangeAt b o vs)(hl:vs.length=18)(h:wpList Tryz.prog ops Q rest (a.put op.dst (.agg vs.toArray)) w):wpList Tryz.prog ops Q (op::rest) a w:=
 wpList_load_mid hgd _ x ho b o hx vs _ hc Tryz.underlying48 rfl (by rw[hl];kernel_rfl) h
theorem Ydr {ops:Array Oper}{rest:List Oper}{op:Oper}{a:Act}{w:World}{Q:Exit→Act→World→Prop}(hgd:op.guard=none)(x:Operand)(ho:op.op=.load 42 x)
  (b o:Nat)(hx:a.eval x=.pointer (some ⟨b,o,none⟩))(vs:List Value)(hc:w.rangeAt b o vs)(hl:vs.length=4)(h:wpList Tryz.prog ops Q rest (a.put op.dst (.agg vs.toArray)) w):wpList Tryz.prog ops Q (op::rest) a w:=
 wpList_load_mid hgd _ x ho b o hx vs _ hc Tryz.underlying42 rfl (by rw[hl];kernel_rfl) h
theorem Yh6 {ops:Array Oper}{rest:List Oper}{op:Oper}{a:Act}{w:World}{Q:Exit→Act→World→Prop}(hw:Region.wanted op (yielded ops a.tmps)=true)(x:Operand)(ho:op.op=.load 43 x)
  (b o:Nat)(hx:a.eval x=.pointer (some ⟨b,o,none⟩))(u v:Int)(hc:w.rangeAt b o [.int .i64 u,.int .i64 v])(h:wpList Tryz.prog ops Q rest (a.put op.dst (.agg (Yh4 u v))) w):wpList Tryz.prog ops Q (op::rest) a w:=by
 unfold wpList;rw[if_pos hw];exact .inl (wp_load_mid _ x ho b o hx [.int .i64 u,.int .i64 v] _ hc Tryz.underlying43 rfl (by kernel_rfl) h)
theorem Yfi {P:Program}{T:TypeId}{Z:Array Value}(h:(P.info? T).map (fun i=>i.zero)=some (some (.agg Z)))(w:World):(zeroValue T).run P w=.ok (.agg Z) w:=by
 cases hq:P.info? T with
 |none=>rw[hq] at h;cases h
 |some i=>
  rw[hq] at h;have h:i.zero=some (.agg Z):=by simpa using h
  simp[zeroValue,typeInfo,hq,h]
theorem Yef:∃Y:Array Value,Y.size=18∧∀w,(zeroValue 48).run Tryz.prog w=.ok (.agg Y) w:=⟨(Ybp Yzv Yhl).toArray,rfl,Yfi (by kernel_rfl)⟩
theorem Yfw:∃Y:Array Value,Y.size=4∧∀w,(zeroValue 42).run Tryz.prog w=.ok (.agg Y) w:=⟨#[.bool false,.int .i64 0,.int .i64 0,.slice none 0 0],rfl,Yfi (by kernel_rfl)⟩
theorem Yei {w:World}{c:Cel}{vs:List Value}(h:Yrh w c vs):vs.toArray.all (·.oneCell')=true:=by
 rw[Array.all_eq_true_iff_forall_mem];exact fun u hu=>h.shape.2 u (by simpa using hu)
end Go.Proofs.YtnamlooifcpoaaaGreatDoor