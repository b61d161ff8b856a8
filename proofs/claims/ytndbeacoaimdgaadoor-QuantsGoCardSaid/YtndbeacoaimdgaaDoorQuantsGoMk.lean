/- No condition. -/
import Derived.Test.YtndbeacoaimdgaaDoorQuantsGoMb
import Derived.Test.YtndbeacoaimdgaaDoorQuantsGoMe
import Derived.Test.YtndbeacoaimdgaaDoorQuantsGoMh
import Derived.Test.YtndbeacoaimdgaaDoorQuantsGoMj
import Derived.WalkMore
import Derived.Test.YtndbeacoaimdgaaDoorChecked
import Derived.Lib.Hide
import Derived.Below
import Derived.WalkKit
import Derived.OwnWalk
import Derived.IntWalk
import Derived.Laws.ResultCell
import Derived.Laws.Rows
import Derived.Laws.OwnMore
import Derived.Deep.AppendLies
import Derived.Maps.AppendAt
import Derived.ChangeKeysEq
import Derived.RegionTactic
namespace Go.Proofs.YtndbeacoaimdgaaDoor
open Go.RowKit Go.Lib Go.ChangeShapes Go.WideShapes Go.ChangeAt
def Ycf (run level:Int):Bool:=decide (0≤run)&&decide (run≤63)&&decide (-127≤level)&&decide (level≤127) && !(level==0)
theorem Ycs {run level:Int}:Ycf run level=true↔0≤run∧run≤63∧-127≤level∧level≤127∧level≠0:=by
 unfold Ycf;simp[Bool.and_eq_true,and_assoc]
def Yjm (last:Bool)(run level:Int):Obj:=.cells [.bool last,.int .i64 run,.int .i64 level].toArray 89 (0,0)
theorem Yfu (last:Bool)(run level:Int)(w:World):Calls Tryd.prog 88 #[.agg #[.bool last,.int .i64 run,.int .i64 level]] w fun e w'=>e=.returned (.bool (Ycf run level))∧Below w.heap.size w w':=by
 have hb:∀o,Below w.heap.size w (w.alloc o):=fun o=>(Below.refl _ w).alloc (Nat.le_refl _) o;have hT:Ycf run level=(decide (0≤run)&&decide (run≤63)&&decide (-127≤level)&&decide (level≤127) && !(level==0)):=rfl;have HT:=Lib.hid hT;clear hT;cases g0:decide (0≤run)
 ·go_enter Tryd.func88,Tryd.ntmps88
  go_wp2
  go_ret
  exact⟨Yad (by rw[HT.out,g0];rfl),hb _⟩
 cases g1:decide (run≤63)
 ·go_enter Tryd.func88,Tryd.ntmps88
  go_wp2
  go_ret
  exact⟨Yad (by rw[HT.out,g0,g1];rfl),hb _⟩
 cases g2:decide (-127≤level)
 ·go_enter Tryd.func88,Tryd.ntmps88
  go_wp2
  go_ret
  exact⟨Yad (by rw[HT.out,g0,g1,g2];rfl),hb _⟩
 cases g3:decide (level≤127)
 ·go_enter Tryd.func88,Tryd.ntmps88
  go_wp2
  go_ret
  exact⟨Yad (by rw[HT.out,g0,g1,g2,g3];rfl),hb _⟩
 cases g4:level==0
 all_goals
  have g5:=Lib.hid (show (level != 0) = !(level==0) from rfl)
  go_enter Tryd.func88,Tryd.ntmps88
  go_wp2
  go_ret
  exact⟨Yad (by rw[HT.out,g5.out,g0,g1,g2,g3,g4];rfl),hb _⟩
theorem Yd7 {x:World}{B:Nat}{last:Bool}{r v:Int}(h:x.heap[B]? =some (Yjm last r v)):
  x.cell? ⟨B,0,none⟩=some (.bool last)∧x.cell? ⟨B,1,none⟩=some (.int .i64 r)∧x.cell? ⟨B,2,none⟩=some (.int .i64 v)∧x.frozen? ⟨B,0,none⟩=false∧x.frozen? ⟨B,1,none⟩=false∧x.frozen? ⟨B,2,none⟩=false:=
 ⟨Yab h rfl,Yab h rfl,Yab h rfl,Yav (o:=0) h,Yav (o:=1) h,Yav (o:=2) h⟩
def Yn5 (f:Nat→Int):List Value:=(List.range 64).map fun i=>.int .i64 (f i)
theorem Ydh (f:Nat→Int):(Yn5 f).length=64:=by simp[Yn5]
theorem Yf4 (f:Nat→Int){i:Nat}(h:i<64):(Yn5 f)[i]? =some (.int .i64 (f i)):=by simp[Yn5,h]
theorem Yms (f:Nat→Int):∀v∈Yn5 f,v.oneCell'=true:=by
 intro v hv;obtain⟨i,_,rfl⟩:=List.mem_map.1 hv
 rfl
def Ymc (f:Nat→Int)(i:Nat)(v:Int):Nat→Int:=fun k=>if k=i then v else f k
theorem Ymt (f:Nat→Int){i:Nat}(v:Int):(Yn5 f).set i (.int .i64 v)=Yn5 (Ymc f i v):=by
 refine List.ext_getElem? fun k=>?_;rw[List.getElem?_set,Ydh];by_cases hk:k<64
 ·by_cases e:i=k
  ·subst e;rw[if_pos rfl,if_pos hk,Yf4 _ hk];simp[Ymc]
  ·rw[if_neg e,Yf4 _ hk,Yf4 _ hk];unfold Ymc;rw[if_neg (fun h=>e h.symm)]
 ·by_cases e:i=k
  ·subst e;rw[if_pos rfl,if_neg hk,List.getElem?_eq_none (by rw[Ydh];omega)]
  ·rw[if_neg e,List.getElem?_eq_none (by rw[Ydh];omega),List.getElem?_eq_none (by rw[Ydh];omega)]
def Ydy (f:Nat→Int):Array Value:=(Yn5 f).toArray
theorem Ybn (f:Nat→Int):(Ydy f).size=64:=Ydh f
theorem Yob (f:Nat→Int){i:Nat}(h:i<64):(Ydy f)[i]? =some (.int .i64 (f i)):=by
 unfold Ydy;rw[List.getElem?_toArray];exact Yf4 f h
theorem Yd6 (f:Nat→Int):(Ydy f).all (·.oneCell')=true:=by
 rw[Array.all_eq_true_iff_forall_mem];intro v hv;exact Yms f v (by simpa [Ydy] using hv)
def Ymm (f:Nat→Int):Obj:=.cells (Ydy f) 75 (0,0)
theorem Ymw:(Tryd.prog.info? 75).map (·.size)=some 64:=by kernel_rfl
theorem Ydi (f:Nat→Int):(Tryd.prog.info? 75).map (·.size)=some (Ydy f).size:=by rw[Ybn];exact Ymw
theorem Yiv:∃i,Tryd.prog.info? 3=some i:=by
 cases h:Tryd.prog.info? 3 with
 |some i=>exact⟨i,rfl⟩
 |none=>
  have h2:(Tryd.prog.info? 3).isSome=true:=by kernel_rfl
  rw[h] at h2;cases h2
theorem Yhc:Tryd.prog.cellsOf 3=1:=by kernel_rfl
theorem Yb6:Tryd.prog.plainKey 3=true:=by kernel_rfl
theorem Yf5 (w:World):(zeroValue 75).run Tryd.prog w=.ok (.agg (Ydy fun _=>0)) w:=by
 have h:(Tryd.prog.info? 75).map (fun i=>i.zero)=some (some (.agg (Ydy fun _=>0))):=by kernel_rfl
 generalize (Ydy fun _=>0)=Z at h ⊢;cases hq:Tryd.prog.info? 75 with
 |none=>simp[hq] at h
 |some i=>
  simp[hq] at h;simp[zeroValue,typeInfo,hq,h]
theorem Ymu {w:World}{B i:Nat}{f:Nat→Int}(h:w.heap[B]? =some (Ymm f))(hi:i<64):w.cell? ⟨B,i,none⟩=some (.int .i64 (f i)):=by
 rw[cell_of_row w B i _ _ _ h];exact Yob f hi
theorem Ymv {w:World}{B i:Nat}{f:Nat→Int}(h:w.heap[B]? =some (Ymm f)):w.frozen? ⟨B,i,none⟩=false:=frozen_of_row w B i _ _ h
theorem Yoc {w:World}{B i:Nat}{f:Nat→Int}(v:Int)(h:w.heap[B]? =some (Ymm f)):(w.setCell ⟨B,i,none⟩ (.int .i64 v)).heap[B]? =some (Ymm (Ymc f i v)):=by
 rw[heap_setCell_same w B i _ _ _ h];unfold Ymm;rw[show (Ydy f).setIfInBounds i (.int .i64 v)=Ydy (Ymc f i v) by unfold Ydy;rw[List.setIfInBounds_toArray,Ymt]]
theorem Yax {P:Program}{ops:Array Oper}{rest:List Oper}{op:Oper}{a:Act}{w:World}{Q:Exit→Act→World→Prop}(hgd:op.guard=none)(ty:TypeId)(x y:Operand)(ho:op.op=.store ty x y)
  (b:Nat)(Z old:Array Value)(hx:a.eval x=.pointer (some ⟨b,0,none⟩))(hy:a.eval y=.agg Z)(T:TypeId)(hg:w.heap[b]? =some (.cells old T (0,0)))(hi:(P.info? ty).map (·.size)=some Z.size)(hs:old.size=Z.size)(h1:Z.all (·.oneCell')=true)
  (h:∀w',w'.heap[b]? =some (.cells Z T (0,0))→w.grownBy w' (some b)→wpList P ops Q rest (a.put op.dst undef) w'):wpList P ops Q (op::rest) a w:=
 wpList_store_row hgd ty x y ho b Z hx hy T old hg hi hs h1 (h _ (setRow_heap w b old Z T (0,0) hg) ⟨rfl,rfl,rfl,by simp,fun k _ hk=>setRow_other w b k _ (by intro e;exact hk (by rw[e]))⟩)
theorem Yan {P:Program}{ops:Array Oper}{rest:List Oper}{o:Oper}{a:Act}{w:World}{Q:Exit→Act→World→Prop}(hw:Region.wanted o (yielded ops a.tmps)=true)(ty:TypeId)(x:Operand)(ho:o.op=.load ty x)
  (g:Nat)(hx:a.eval x=.pointer (some ⟨g,0,none⟩))(t:TypeId)(cs:Array Value)(fr:Nat×Nat)(d:TypeDesc)(hg:w.heap[g]? =some (.cells cs t fr))
  (hu:P.underlying ty=some d)(hd:(match d with|.struct _|.array _ _=>true|_=>false)=true)(hi:(P.info? ty).map (·.size)=some cs.size)
  (h:wpList P ops Q rest (a.put o.dst (.agg cs)) w):wpList P ops Q (o::rest) a w:=by
 unfold wpList;rw[if_pos hw];exact .inl (wp_load_row ty x ho g hx t cs fr d hg hu hd hi h)
section
variable {H:Type}{enc:TypeId×Value→H}{P:Program}
end
end Go.Proofs.YtndbeacoaimdgaaDoor
namespace Go.Proofs.YtndbeacoaimdgaaDoor
open Go.RowKit
abbrev Ev:=Bool×Int×Int
def evs (f:Nat→Int)(a:Nat):Nat→List Ev×Nat
 |0=>([],0)
 |k+1=>if k<a then evs f a k else if f k=0 then ((evs f a k).1,(evs f a k).2+1) else ((evs f a k).1++[(false,((evs f a k).2:Int),f k)],0)
def lvS (a:Nat)(l:List Ev):Nat×(Nat→Int):=l.foldl (fun s e=>(s.1+e.2.1.toNat+1,Ymc s.2 (s.1+e.2.1.toNat) e.2.2)) (a,fun _=>0)
theorem Ync (a:Nat)(l:List Ev)(e:Ev):lvS a (l++[e])=((lvS a l).1+e.2.1.toNat+1,Ymc (lvS a l).2 ((lvS a l).1+e.2.1.toNat) e.2.2):=by
 unfold lvS;rw[List.foldl_append]
 rfl
theorem Yiw (a:Nat)(l:List Ev){j:Nat}(h:j<l.length):lvS a (l.take (j+1))=((lvS a (l.take j)).1+l[j].2.1.toNat+1,Ymc (lvS a (l.take j)).2 ((lvS a (l.take j)).1+l[j].2.1.toNat) l[j].2.2):=by
 rw[List.take_succ_eq_append_getElem h,Ync]
def Ykn (a:Nat)(l:List Ev)(j:Nat)(e:Ev):Bool:=Ycf e.2.1 e.2.2&&(e.1==decide (j+1=l.length))&&decide ((lvS a (l.take j)).1+e.2.1.toNat<64)
def Yf6 (a:Nat)(l:List Ev):Nat→Bool
 |0=>false
 |j+1=>Yf6 a l j || (match l[j]? with|some e=>!Ykn a l j e|none=>false)
theorem Ygw {a:Nat}{l:List Ev}{k:Nat}(h:Yf6 a l k=true):∀d,Yf6 a l (k+d)=true
 |0=>h
 |d+1=>by rw[←Nat.add_assoc,Yf6,Ygw h d];rfl
theorem Ykt {a:Nat}{l:List Ev}{j:Nat}(hj:j<l.length)(h:Ykn a l j l[j]=false):Yf6 a l l.length=true:=by
 have h1:Yf6 a l (j+1)=true:=by
  rw[Yf6,List.getElem?_eq_getElem hj];simp[h]
 have:=Ygw h1 (l.length-(j+1));rwa [show j+1+(l.length-(j+1))=l.length by omega] at this
theorem Yip {a:Nat}{l:List Ev}:∀k,k≤l.length→(∀j,(h:j<l.length)→j<k→Ykn a l j l[j]=true)→Yf6 a l k=false
 |0,_,_=>rfl
 |k+1,hk,h=>by
  rw[Yf6,Yip k (by omega) fun j h1 h2=>h j h1 (by omega),List.getElem?_eq_getElem (by omega)];simp[h k (by omega) (by omega)]
theorem Yku {a:Nat}{l:List Ev}(h:Yf6 a l l.length=false){j:Nat}(hj:j<l.length):Ykn a l j l[j]=true:=by
 cases h2:Ykn a l j l[j] with
 |true=>rfl
 |false=>rw[Ykt hj h2] at h;cases h
def lvG (l:List Ev)(a:Int):(Nat→Int)×Int:=if a=0∨a=1 then (if Yf6 a.toNat l l.length then (fun _=>0,7) else ((lvS a.toNat l).2,0)) else (fun _=>0,1)
end Go.Proofs.YtndbeacoaimdgaaDoor
namespace Go.Proofs.YtndbeacoaimdgaaDoor
open Go.RowKit Go.Lib Go.ChangeShapes Go.WideShapes Go.ChangeAt
def Ycu (w:World)(p:Option Addr)(l:List Ev):Prop:=
 l=[]∨∃b o,p=some ⟨b,o,none⟩∧b<w.heap.size∧∀i,(h:i<l.length)→w.cell? ⟨b,o+i*3,none⟩=some (.bool l[i].1)∧w.cell? ⟨b,o+i*3+1,none⟩=some (.int .i64 l[i].2.1)∧w.cell? ⟨b,o+i*3+2,none⟩=some (.int .i64 l[i].2.2)
theorem Ycu.below {w w':World}{p:Option Addr}{l:List Ev}(h:Ycu w p l)(hb:Below w.heap.size w w'):Ycu w' p l:=by
 rcases h with h|⟨b,o,h1,h2,h3⟩
 ·exact .inl h
 ·refine .inr ⟨b,o,h1,Nat.lt_of_lt_of_le h2 hb.size,fun i hi=>?_⟩;rw[hb.cell (p:=⟨b,o+i*3,none⟩) h2,hb.cell (p:=⟨b,o+i*3+1,none⟩) h2,hb.cell (p:=⟨b,o+i*3+2,none⟩) h2];exact h3 i hi
theorem Ycu.at {w:World}{p:Option Addr}{l:List Ev}(h:Ycu w p l)(h0:0<l.length):
  ∃b o,p=some ⟨b,o,none⟩∧b<w.heap.size∧∀i,(h:i<l.length)→w.cell? ⟨b,o+i*3,none⟩=some (.bool l[i].1)∧w.cell? ⟨b,o+i*3+1,none⟩=some (.int .i64 l[i].2.1)∧w.cell? ⟨b,o+i*3+2,none⟩=some (.int .i64 l[i].2.2):=by
 rcases h with rfl|h
 ·cases h0
 ·exact h
def Yb9 (vs:List Value):Prop:=∃(b:Bool) (x y:Int),vs=[.bool b,.int .i64 x,.int .i64 y]∧(Lit.int .i64 x).wf=true∧(Lit.int .i64 y).wf=true
section
variable {H:Type}{enc:TypeId×Value→H}{P:Program}
theorem Yla {w:World}{base:Nat}{sp:Nat→Bool}{held:Bool}{e tb ti:TypeId}{f0 f1 f2:Field}
  (he:P.underlying e=some (.struct #[f0,f1,f2]))(hb:P.underlying tb=some .bool)(hi:P.underlying ti=some (.int .i64))(e0:f0.type=tb)(e1:f1.type=ti)(e2:f2.type=ti)(o0:f0.offset=0)(o1:f1.offset=1)(o2:f2.offset=2)(cb:P.cellsOf tb=1)(ci:P.cellsOf ti=1):
  ∀k (vs:List Value) y,vs.length=3→DataW.trod enc P w base sp held k e vs=some y→Yb9 vs:=by
 intro k vs y hl h;obtain⟨xs,k,hk,hxy,_,hxl,hfs⟩:=DataW.trod_struct he h
 match xs,hxl,vs,hl with
 |[y0,y1,y2],_,[v0,v1,v2],_=>
  have g0:=hfs 0 f0 rfl;have g1:=hfs 1 f1 rfl;have g2:=hfs 2 f2 rfl;rw[e0,o0,cb] at g0;rw[e1,o1,ci] at g1;rw[e2,o2,ci] at g2;obtain⟨x0,q0,_⟩:=DataW.trod_bool hb (show DataW.trod _ P w base sp held k tb [v0]=some y0 from g0);obtain⟨x1,q1,_,w1⟩:=DataW.trod_int hi (show DataW.trod _ P w base sp held k ti [v1]=some y1 from g1)
  obtain⟨x2,q2,_,w2⟩:=DataW.trod_int hi (show DataW.trod _ P w base sp held k ti [v2]=some y2 from g2);injection q0 with q0;injection q1 with q1;injection q2 with q2;subst q0 q1 q2;exact⟨x0,x1,x2,rfl,w1,w2⟩
end
theorem Yct {W:World}{p:Option Addr}{len:Nat}(h:Ykq W Yb9 3 p len):∃l:List Ev,l.length=len∧Ycu W p l∧∀i,(h:i<l.length)→(Lit.int .i64 l[i].2.1).wf=true∧(Lit.int .i64 l[i].2.2).wf=true:=by
 rcases h with rfl|⟨b,o,hp,hb,hc⟩
 ·exact⟨[],rfl,.inl rfl,fun i h=>by cases h⟩
 ·have each:∀i,∃e:Ev,i<len→(W.cell? ⟨b,o+i*3,none⟩=some (.bool e.1)∧W.cell? ⟨b,o+i*3+1,none⟩=some (.int .i64 e.2.1)∧W.cell? ⟨b,o+i*3+2,none⟩=some (.int .i64 e.2.2))∧(Lit.int .i64 e.2.1).wf=true∧(Lit.int .i64 e.2.2).wf=true:=by
   intro i;by_cases hi:i<len
   ·obtain⟨vs,_,⟨x,y,z,rfl,w1,w2⟩,hv⟩:=hc i hi;exact⟨(x,y,z),fun _=>⟨⟨hv 0 _ rfl,hv 1 _ rfl,hv 2 _ rfl⟩,w1,w2⟩⟩
   ·exact⟨(false,0,0),fun h=>absurd h hi⟩
  refine⟨(List.range len).map fun i=>Classical.choose (each i),by simp,.inr ⟨b,o,hp,hb,fun i hi=>?_⟩,fun i hi=>?_⟩
  ·have hi':i<len:=by simpa using hi
   simp only[List.getElem_map,List.getElem_range];exact(Classical.choose_spec (each i) hi').1
  ·have hi':i<len:=by simpa using hi
   simp only[List.getElem_map,List.getElem_range];exact(Classical.choose_spec (each i) hi').2
section
variable {H:Type}{enc:TypeId×Value→H}{P:Program}
theorem Ybi {w:World}{base fuel:Nat}{sp:Nat→Bool}{held:Bool}{t e:TypeId}{v:Value}{x:DataW H×List MemPlace}(c:Nat)(Q:List Value→Prop)
  (ht:P.underlying t=some (.slice e))(ce:P.cellsOf e=c)(hc:0<c)(hq:∀k vs y,vs.length=c→DataW.trod enc P w base sp held k e vs=some y→Q vs)
  (hf:DataW.trod enc P w base sp held fuel t [v]=some x):∃p len cap,v=.slice p len cap∧len≤maxLen∧Ykq w Q c p len:=by
 rcases Go.Deep.open_slice ht hf with ⟨h1,_⟩|⟨a',len',cap',m,n,D,Pl,h1,hb,hl,hm,hmm,_,hx⟩
 ·injection h1 with h1;exact⟨none,0,0,h1,Nat.zero_le _,.inl rfl⟩
 ·injection h1 with h1;refine⟨some a',len',cap',h1,by omega,?_⟩;have hlm:len'≤m:=by rw[hmm];split <;> omega
  have each:∀i,i<len'→∃vs:List Value,vs.length=c∧Q vs∧∀(j:Nat) v,vs[j]? =some v→w.cell? (a'.add (i*c+j))=some v:=by
   intro i hil;obtain⟨cs',h1,h2⟩:=hx i (by omega);rw[ce] at h1;obtain⟨_,hlen,hcell⟩:=World.cells?_some h1;refine⟨cs',hlen,hq _ _ _ hlen h2,fun j v hj=>?_⟩;have hjc:j<c:=by rw[←hlen];exact(List.getElem?_eq_some_iff.1 hj).1
   have:=hcell j hjc;rw[Go.Deep.add_add] at this;rw[this,hj]
  by_cases h0:len'=0
  ·exact .inl h0
  ·right
   obtain⟨vs,hl0,_,hv⟩:=each 0 (by omega);have ca:=hv 0 _ (List.getElem?_eq_getElem (by omega));rw[show 0*c+0=0 by omega] at ca;have ca:w.cell? a'=_:=ca;have ea:=Yhr ca;refine⟨a'.block,a'.off,by rw[←ea],Yf9 ca,fun i hil=>?_⟩;obtain⟨vs,h1,h2,h3⟩:=each i hil;refine⟨vs,h1,h2,fun j v hj=>?_⟩;have:=h3 j v hj;rw[ea,Addr.add_mid,←Nat.add_assoc] at this;exact this
end
end Go.Proofs.YtndbeacoaimdgaaDoor
namespace Go.Proofs.YtndbeacoaimdgaaDoor
open Go.RowKit Go.Lib
structure Cel where
 stuff:Int
 skip:Bool
 kind:Int
 step:Int
 mx:Int
 my:Int
 dc:Nat→Int
 ev:Nat→List Ev
def Yps:Cel:=⟨0,false,0,0,0,0,fun _=>0,fun _=>[]⟩
def six {α:Type}(a b c d e f:α):Nat→α
 |0=>a
 |1=>b
 |2=>c
 |3=>d
 |4=>e
 |_=>f
def Ybe (c:Cel)(sl:Nat→Value):List Value:=
 [.int .i64 c.stuff,.bool c.skip,.int .i64 c.kind,.int .i64 c.step,.int .i64 c.mx,.int .i64 c.my,
  .int .i64 (c.dc 0),.int .i64 (c.dc 1),.int .i64 (c.dc 2),.int .i64 (c.dc 3),.int .i64 (c.dc 4),.int .i64 (c.dc 5),sl 0,sl 1,sl 2,sl 3,sl 4,sl 5]
def Ygp:Nat→Value:=fun _=>.slice none 0 0
theorem Yof (c:Cel)(sl:Nat→Value):∀i,i<6→(Ybe c sl)[6+i]? =some (.int .i64 (c.dc i))
 |0,_=>rfl
 |1,_=>rfl
 |2,_=>rfl
 |3,_=>rfl
 |4,_=>rfl
 |5,_=>rfl
def Yf3 (w:World)(c:Cel)(p:Nat→Option Addr)(n:Nat→Nat):Prop:=∀i,i<6→n i=(c.ev i).length∧n i≤1048576∧Ycu w (p i) (c.ev i)
theorem Yf3.below {w x:World}{c:Cel}{p:Nat→Option Addr}{n:Nat→Nat}(h:Yf3 w c p n)(hb:Below w.heap.size w x):Yf3 x c p n:=
 fun i hi=>⟨(h i hi).1,(h i hi).2.1,(h i hi).2.2.below hb⟩
end Go.Proofs.YtndbeacoaimdgaaDoor
namespace Go.Proofs.YtndbeacoaimdgaaDoor
open Go.RowKit Go.Lib Go.ChangeShapes Go.WideShapes Go.ChangeAt
section
variable {H:Type}{enc:TypeId×Value→H}{P:Program}
theorem Yid {w:World}{base fuel:Nat}{sp:Nat→Bool}{held:Bool}{t e:TypeId}{c0 c1:Value}{x:DataW H×List MemPlace}
  (ht:P.underlying t=some (.array 2 e))(he:P.underlying e=some (.int .i64))(hce:P.cellsOf e=1)(hf:DataW.trod enc P w base sp held fuel t [c0,c1]=some x):
  ∃a b:Int,c0=.int .i64 a∧c1=.int .i64 b∧(Lit.int .i64 a).wf=true∧(Lit.int .i64 b).wf=true:=by
 obtain⟨xs,m,_,_,_,hl,hel⟩:=DataW.trod_array ht hf;rw[hce] at hel
 match xs,hl with
 |[y0,y1],_=>
  obtain⟨x0,q0,_,w0⟩:=DataW.trod_int he (show DataW.trod _ P w base sp held m e [c0]=some y0 from hel 0 (by omega));obtain⟨x1,q1,_,w1⟩:=DataW.trod_int he (show DataW.trod _ P w base sp held m e [c1]=some y1 from hel 1 (by omega));injection q0 with q0;injection q1 with q1;exact⟨x0,x1,q0,q1,w0,w1⟩
theorem Yev {w:World}{base fuel:Nat}{sp:Nat→Bool}{held:Bool}{t e:TypeId}{c0 c1 c2 c3 c4 c5:Value}{x:DataW H×List MemPlace}
  (ht:P.underlying t=some (.array 6 e))(hce:P.cellsOf e=1)(hf:DataW.trod enc P w base sp held fuel t [c0,c1,c2,c3,c4,c5]=some x):
  ∃(m:Nat) (y0 y1 y2 y3 y4 y5:DataW H×List MemPlace),DataW.trod enc P w base sp held m e [c0]=some y0∧DataW.trod enc P w base sp held m e [c1]=some y1∧DataW.trod enc P w base sp held m e [c2]=some y2∧DataW.trod enc P w base sp held m e [c3]=some y3∧DataW.trod enc P w base sp held m e [c4]=some y4∧DataW.trod enc P w base sp held m e [c5]=some y5:=by
 obtain⟨xs,m,_,_,_,hl,hel⟩:=DataW.trod_array ht hf;rw[hce] at hel
 match xs,hl with
 |[y0,y1,y2,y3,y4,y5],_=>exact⟨m,y0,y1,y2,y3,y4,y5,hel 0 (by omega),hel 1 (by omega),hel 2 (by omega),hel 3 (by omega),hel 4 (by omega),hel 5 (by omega)⟩
theorem Ybj {w:World}{base fuel:Nat}{sp:Nat→Bool}{held:Bool}{e:TypeId}{c:Value}{x:DataW H×List MemPlace}(he:P.underlying e=some (.int .i64))(hf:DataW.trod enc P w base sp held fuel e [c]=some x):
  ∃a:Int,c=.int .i64 a∧(Lit.int .i64 a).wf=true:=by
 obtain⟨a,q,_,h⟩:=DataW.trod_int he hf;injection q with q;exact⟨a,q,h⟩
end
end Go.Proofs.YtndbeacoaimdgaaDoor