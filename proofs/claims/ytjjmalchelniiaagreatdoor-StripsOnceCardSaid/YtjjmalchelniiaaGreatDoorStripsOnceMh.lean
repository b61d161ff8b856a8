/- Part 8 of StripsOnce. No condition. -/
import Derived.Test.YtjjmalchelniiaaGreatDoorStripsOnceMb
import Derived.Test.YtjjmalchelniiaaGreatDoorStripsOnceMe
import Derived.Test.YtjjmalchelniiaaGreatDoorStripsOnceMf
import Derived.WalkKit
import Derived.Lib.Hide
import Derived.Test.YtjjmalchelniiaaGreatDoorChecked
import Derived.OwnWalk
import Derived.Laws.AppendOwn
import Derived.ChangeMaps5
import Derived.Deep.Slices
import Derived.Deep.MidRow
import Derived.WalkMore
import Derived.Below
import Derived.IntWalk
import Derived.Laws.ResultCell
import Derived.Laws.Rows
import Derived.Laws.OwnMore
import Derived.Deep.AppendLies
import Derived.Maps.AppendAt
import Derived.ChangeKeysEq
import Derived.RegionTactic
namespace Go.Proofs.YtjjmalchelniiaaGreatDoor
open Go.RowKit Go.Lib Go.ChangeShapes Go.WideShapes Go.ChangeAt
def Yu6 (w:World)(p:Option Addr)(n:Nat)(f:Nat→Int):Prop:=n=0∨∃b o,p=some ⟨b,o,none⟩∧b<w.heap.size∧∀i,i<n→w.cell? ⟨b,o+i,none⟩=some (.int .i64 (f i))
theorem Yu6.below {w w':World}{p:Option Addr}{n:Nat}{f:Nat→Int}(h:Yu6 w p n f)(hb:Below w.heap.size w w'):Yu6 w' p n f:=by
 rcases h with h|⟨b,o,rfl,hl,h⟩
 ·exact .inl h
 ·exact .inr ⟨b,o,rfl,by have:=hb.size;omega,fun i hi=>(hb.cell (p:=⟨b,o+i,none⟩) hl).trans (h i hi)⟩
def Ydw (w:World)(p:Option Addr)(l:List Int):Prop:=Yu6 w p l.length fun i=>l.getD i 0
theorem Ydw.below {w w':World}{p:Option Addr}{l:List Int}(h:Ydw w p l)(hb:Below w.heap.size w w'):Ydw w' p l:=Yu6.below h hb
theorem Ydw.nil (w:World)(p:Option Addr):Ydw w p []:=.inl rfl
theorem Ydw.hold {w:World}{p:Option Addr}{l:List Int}(h:Ydw w p l)(h0:0<l.length):∃b o,p=some ⟨b,o,none⟩∧b<w.heap.size∧∀x,Below w.heap.size w x→∀i,i<l.length→x.cell? ⟨b,o+i,none⟩=some (.int .i64 (l.getD i 0)):=by
 rcases h with h|⟨b,o,rfl,hl,h⟩
 ·omega
 ·exact⟨b,o,rfl,hl,fun x hx i hi=>(World.cell?_of_block (a:=⟨b,o+i,none⟩) (hx.block b hl)).trans (h i hi)⟩
section
variable {H:Type}{enc:TypeId×Value→H}{P:Program}
end
def Qhx (l:List Int):List Value:=l.map fun x=>.int .i64 x
theorem Ywl (l:List Int)(x:Int):Qhx (l++[x])=Qhx l++[.int .i64 x]:=by simp[Qhx]
theorem Ytn {w:World}{base e:Nat}{v:Value}{l:List Int}{n:Nat}(hl:l.length=n)(h:w.ownsRow base e 1 v n (Qhx l)):
  ∃(q:Option Addr) (cap:Nat),v=.slice q n cap∧Ydw w q l:=by
 subst hl;have h0:=h;rcases h.2 with ⟨rfl,h1⟩|⟨g,cap,cur,rfl,_,hg,_⟩
 ·exact⟨none,0,by rw[h1],.inl h1⟩
 ·refine⟨_,cap,rfl,.inr ⟨g,0,rfl,(Array.getElem?_eq_some_iff.1 hg).1,fun i hi=>?_⟩⟩;have:=World.ownsRow.cells (g:=g) h0 rfl i (.int .i64 (l.getD i 0)) (by simp[Qhx,List.getD,hi]);rwa [Addr.add_mid] at this
theorem Yo3 {P:Program}{w:World}{o:Oper}{a:Act}{K:Act→World→Prop}{Q:Exit→Act→World→Prop}{sl x:Operand}{t base e c:Nat}{i:TypeInfo}{z v:Value}{n:Nat}{xs:List Value}{B:Nat}{y0:Int}
  (ho:o.op=.call {callee:=.builtin .append,args:=#[sl,x],argTypes:=#[t,t]})
  (ht:P.underlying t=some (.slice e))(hi:P.info? e=some i)(hz:i.zero=some z)(hzs:z.cells.size=1)(hsize:i.size=1)(hby:i.bytes=8)
  (hs:a.eval sl=v)(hown:w.ownsRow base e 1 v n xs)(hx:a.eval x=.slice (some ⟨B,0,none⟩) 1 c)(c0:w.cell? ⟨B,0,none⟩=some (.int .i64 y0))(hn:n≤1048576)(hbase:base≤w.heap.size)
  (h:∀v' w',w'.ownsRow base e 1 v' (n+1) (xs++[.int .i64 y0])→w.grownBy w' v.ownBlock→K (a.put o.dst v') w'):o.wp P a w K Q:=
 wp_append_own w sl x t ho base e i z 1 8 ht hi hz hsize hby hzs (by decide) v n xs hs hown ⟨B,0,none⟩ 1 c [.int .i64 y0] hx rfl
  (fun j u hj=>by
   match j,hj with
   |0,hj=>cases hj;exact c0)
  (by intro u hu;rw[List.mem_singleton] at hu;subst hu;rfl) (by unfold maxLen;omega) (by omega) hbase
  fun v' w' h1 h2 _=>h v' w' h1 h2
theorem Qd0:(Tryz.prog.info? 3).map (fun i=>(i.zero,i.size,i.bytes))=some (some (.int .i64 0),1,8):=by kernel_rfl
def Yec (run level:Int):Bool:=decide (0≤run)&&decide (run≤63)&&decide (-127≤level)&&decide (level≤127) && !(level==0)
theorem Yd1 {run level:Int}:Yec run level=true↔0≤run∧run≤63∧-127≤level∧level≤127∧level≠0:=by
 unfold Yec;simp[Bool.and_eq_true,and_assoc]
def Ycv (last:Bool)(run level:Int):Obj:=.cells [.bool last,.int .i64 run,.int .i64 level].toArray 153 (0,0)
theorem Ylu (last:Bool)(run level:Int)(w:World):Calls Tryz.prog 223 #[.agg #[.bool last,.int .i64 run,.int .i64 level]] w fun e w'=>e=.returned (.bool (Yec run level))∧Below w.heap.size w w':=by
 have hb:∀o,Below w.heap.size w (w.alloc o):=fun o=>(Below.refl _ w).alloc (Nat.le_refl _) o;have hT:Yec run level=(decide (0≤run)&&decide (run≤63)&&decide (-127≤level)&&decide (level≤127) && !(level==0)):=rfl;have HT:=Lib.hid hT;clear hT;cases g0:decide (0≤run)
 ·go_enter Tryz.func223,Tryz.ntmps223
  go_wp2
  go_ret
  exact⟨Yan (by rw[HT.out,g0];rfl),hb _⟩
 cases g1:decide (run≤63)
 ·go_enter Tryz.func223,Tryz.ntmps223
  go_wp2
  go_ret
  exact⟨Yan (by rw[HT.out,g0,g1];rfl),hb _⟩
 cases g2:decide (-127≤level)
 ·go_enter Tryz.func223,Tryz.ntmps223
  go_wp2
  go_ret
  exact⟨Yan (by rw[HT.out,g0,g1,g2];rfl),hb _⟩
 cases g3:decide (level≤127)
 ·go_enter Tryz.func223,Tryz.ntmps223
  go_wp2
  go_ret
  exact⟨Yan (by rw[HT.out,g0,g1,g2,g3];rfl),hb _⟩
 cases g4:level==0
 all_goals
  have g5:=Lib.hid (show (level != 0) = !(level==0) from rfl)
  go_enter Tryz.func223,Tryz.ntmps223
  go_wp2
  go_ret
  exact⟨Yan (by rw[HT.out,g5.out,g0,g1,g2,g3,g4];rfl),hb _⟩
def Y37 (x:Bool×Nat×Int):Value:=.agg #[.bool x.1,.int .i64 (x.2.1:Int),.int .i64 x.2.2]
theorem Ybu {x:World}{B:Nat}{last:Bool}{r v:Int}(h:x.heap[B]? =some (Ycv last r v)):
  x.cell? ⟨B,0,none⟩=some (.bool last)∧x.cell? ⟨B,1,none⟩=some (.int .i64 r)∧x.cell? ⟨B,2,none⟩=some (.int .i64 v)∧x.frozen? ⟨B,0,none⟩=false∧x.frozen? ⟨B,1,none⟩=false∧x.frozen? ⟨B,2,none⟩=false:=
 ⟨Yab h rfl,Yab h rfl,Yab h rfl,Yai (o:=0) h,Yai (o:=1) h,Yai (o:=2) h⟩
theorem Y8o {x:World}{B:Nat}{last:Bool}{r v:Int}(h:x.heap[B]? =some (Ycv last r v))(k:Int):(x.setCell ⟨B,1,none⟩ (.int .i64 k)).heap[B]? =some (Ycv last k v):=Yau (o:=1) (.int .i64 k) h
theorem Qdt {x:World}{B:Nat}{last:Bool}{r v:Int}(h:x.heap[B]? =some (Ycv last r v))(k:Int):(x.setCell ⟨B,2,none⟩ (.int .i64 k)).heap[B]? =some (Ycv last r k):=Yau (o:=2) (.int .i64 k) h
theorem Qhp {x:World}{B:Nat}{last:Bool}{r v:Int}(h:x.heap[B]? =some (Ycv last r v))(k:Bool):(x.setCell ⟨B,0,none⟩ (.bool k)).heap[B]? =some (Ycv k r v):=Yau (o:=0) (.bool k) h
theorem Ylk {x:World}{B:Nat}{last:Bool}{r v:Int}(h:x.heap[B]? =some (Ycv last r v))(l':Bool)(r' v':Int):
  (((x.setCell ⟨B,0,none⟩ (.bool l')).setCell ⟨B,1,none⟩ (.int .i64 r')).setCell ⟨B,2,none⟩ (.int .i64 v')).heap[B]? =some (Ycv l' r' v'):=Qdt (Y8o (Qhp h l') r') v'
theorem Yfg {P:Program}{w:World}{ops:Array Oper}{rest:List Oper}{o:Oper}{a:Act}{Q:Exit→Act→World→Prop}{sl x:Operand}{t base e c:Nat}{i:TypeInfo}{z v:Value}{n:Nat}{xs:List Value}{K:Nat}{y0:Bool}{y1 y2:Int}
  (hgd:o.guard=none)(ho:o.op=.call {callee:=.builtin .append,args:=#[sl,x],argTypes:=#[t,t]})
  (ht:P.underlying t=some (.slice e))(hi:P.info? e=some i)(hz:i.zero=some z)(hzs:z.cells.size=3)(hsize:i.size=3)(hby:i.bytes=24)
  (hs:a.eval sl=v)(hown:w.ownsRow base e 3 v n xs)(hx:a.eval x=.slice (some ⟨K,0,none⟩) 1 c)(c0:w.cell? ⟨K,0,none⟩=some (.bool y0))(c1:w.cell? ⟨K,1,none⟩=some (.int .i64 y1))(c2:w.cell? ⟨K,2,none⟩=some (.int .i64 y2))(hn:n≤1048576)(hbase:base≤w.heap.size)
  (h:∀v' w',w'.ownsRow base e 3 v' (n+1) (xs++[.bool y0,.int .i64 y1,.int .i64 y2])→w.grownBy w' v.ownBlock→(v'.ownBlock=v.ownBlock∨v'.ownBlock=some w.heap.size)→wpList P ops Q rest (a.put o.dst v') w'):wpList P ops Q (o::rest) a w:=
 wpList_append_own_at w hgd sl x t ho base e i z 3 24 ht hi hz hsize hby hzs (by decide) v n xs hs hown ⟨K,0,none⟩ 1 c [.bool y0,.int .i64 y1,.int .i64 y2] hx rfl
  (fun j u hj=>by
   match j,hj with
   |0,hj=>cases hj;exact c0
   |1,hj=>cases hj;exact c1
   |2,hj=>cases hj;exact c2)
  (by intro u hu;simp only[List.mem_cons,List.not_mem_nil,or_false] at hu;rcases hu with rfl|rfl|rfl <;> rfl) (by unfold maxLen;omega) (by omega) hbase
  fun v' w' h1 h2 _ h4=>h v' w' h1 h2 h4
theorem Qhw:(Tryz.prog.info? 153).map (fun i=>(i.zero,i.size,i.bytes))=some (some (.agg #[.bool false,.int .i64 0,.int .i64 0]),3,24):=by kernel_rfl
def Qge (f:Nat→Int):List Value:=(List.range 64).map fun i=>.int .i64 (f i)
theorem Yj3 (f:Nat→Int):(Qge f).length=64:=by simp[Qge]
theorem Ys1 (f:Nat→Int){i:Nat}(h:i<64):(Qge f)[i]? =some (.int .i64 (f i)):=by simp[Qge,h]
theorem Qck (f:Nat→Int):∀v∈Qge f,v.oneCell'=true:=by
 intro v hv;obtain⟨i,_,rfl⟩:=List.mem_map.1 hv
 rfl
def Y2g (f:Nat→Int)(i:Nat)(v:Int):Nat→Int:=fun k=>if k=i then v else f k
theorem Qcl (f:Nat→Int){i:Nat}(v:Int):(Qge f).set i (.int .i64 v)=Qge (Y2g f i v):=by
 refine List.ext_getElem? fun k=>?_;rw[List.getElem?_set,Yj3];by_cases hk:k<64
 ·by_cases e:i=k
  ·subst e;rw[if_pos rfl,if_pos hk,Ys1 _ hk];simp[Y2g]
  ·rw[if_neg e,Ys1 _ hk,Ys1 _ hk];unfold Y2g;rw[if_neg (fun h=>e h.symm)]
 ·by_cases e:i=k
  ·subst e;rw[if_pos rfl,if_neg hk,List.getElem?_eq_none (by rw[Yj3];omega)]
  ·rw[if_neg e,List.getElem?_eq_none (by rw[Yj3];omega),List.getElem?_eq_none (by rw[Yj3];omega)]
def Yl8 (f:Nat→Int):Array Value:=(Qge f).toArray
theorem Yfj (f:Nat→Int):(Yl8 f).size=64:=Yj3 f
theorem Qg6 (f:Nat→Int){i:Nat}(h:i<64):(Yl8 f)[i]? =some (.int .i64 (f i)):=by
 unfold Yl8;rw[List.getElem?_toArray];exact Ys1 f h
theorem Ym7 (f:Nat→Int):(Yl8 f).all (·.oneCell')=true:=by
 rw[Array.all_eq_true_iff_forall_mem];intro v hv;exact Qck f v (by simpa [Yl8] using hv)
def Qb3 (f:Nat→Int):Obj:=.cells (Yl8 f) 180 (0,0)
theorem Qco:(Tryz.prog.info? 180).map (·.size)=some 64:=by kernel_rfl
theorem Yj4 (f:Nat→Int):(Tryz.prog.info? 180).map (·.size)=some (Yl8 f).size:=by rw[Yfj];exact Qco
theorem Y1s:∃i,Tryz.prog.info? 3=some i:=by
 cases h:Tryz.prog.info? 3 with
 |some i=>exact⟨i,rfl⟩
 |none=>
  have h2:(Tryz.prog.info? 3).isSome=true:=by kernel_rfl
  rw[h] at h2;cases h2
theorem Ywm:Tryz.prog.cellsOf 3=1:=by kernel_rfl
theorem Ygd:Tryz.prog.plainKey 3=true:=by kernel_rfl
theorem Ys2 (w:World):(zeroValue 180).run Tryz.prog w=.ok (.agg (Yl8 fun _=>0)) w:=by
 have h:(Tryz.prog.info? 180).map (fun i=>i.zero)=some (some (.agg (Yl8 fun _=>0))):=by kernel_rfl
 generalize (Yl8 fun _=>0)=Z at h ⊢;cases hq:Tryz.prog.info? 180 with
 |none=>simp[hq] at h
 |some i=>
  simp[hq] at h;simp[zeroValue,typeInfo,hq,h]
theorem Qcm {w:World}{B i:Nat}{f:Nat→Int}(h:w.heap[B]? =some (Qb3 f))(hi:i<64):w.cell? ⟨B,i,none⟩=some (.int .i64 (f i)):=by
 rw[cell_of_row w B i _ _ _ h];exact Qg6 f hi
theorem Qcn {w:World}{B i:Nat}{f:Nat→Int}(h:w.heap[B]? =some (Qb3 f)):w.frozen? ⟨B,i,none⟩=false:=frozen_of_row w B i _ _ h
theorem Qg7 {w:World}{B i:Nat}{f:Nat→Int}(v:Int)(h:w.heap[B]? =some (Qb3 f)):(w.setCell ⟨B,i,none⟩ (.int .i64 v)).heap[B]? =some (Qb3 (Y2g f i v)):=by
 rw[heap_setCell_same w B i _ _ _ h];unfold Qb3;rw[show (Yl8 f).setIfInBounds i (.int .i64 v)=Yl8 (Y2g f i v) by unfold Yl8;rw[List.setIfInBounds_toArray,Qcl]]
theorem Yaj {P:Program}{ops:Array Oper}{rest:List Oper}{op:Oper}{a:Act}{w:World}{Q:Exit→Act→World→Prop}(hgd:op.guard=none)(ty:TypeId)(x y:Operand)(ho:op.op=.store ty x y)
  (b:Nat)(Z old:Array Value)(hx:a.eval x=.pointer (some ⟨b,0,none⟩))(hy:a.eval y=.agg Z)(T:TypeId)(hg:w.heap[b]? =some (.cells old T (0,0)))(hi:(P.info? ty).map (·.size)=some Z.size)(hs:old.size=Z.size)(h1:Z.all (·.oneCell')=true)
  (h:∀w',w'.heap[b]? =some (.cells Z T (0,0))→w.grownBy w' (some b)→wpList P ops Q rest (a.put op.dst undef) w'):wpList P ops Q (op::rest) a w:=
 wpList_store_row hgd ty x y ho b Z hx hy T old hg hi hs h1 (h _ (setRow_heap w b old Z T (0,0) hg) ⟨rfl,rfl,rfl,by simp,fun k _ hk=>setRow_other w b k _ (by intro e;exact hk (by rw[e]))⟩)
theorem Yb6 {P:Program}{ops:Array Oper}{rest:List Oper}{o:Oper}{a:Act}{w:World}{Q:Exit→Act→World→Prop}(hw:Region.wanted o (yielded ops a.tmps)=true)(ty:TypeId)(x:Operand)(ho:o.op=.load ty x)
  (g:Nat)(hx:a.eval x=.pointer (some ⟨g,0,none⟩))(t:TypeId)(cs:Array Value)(fr:Nat×Nat)(d:TypeDesc)(hg:w.heap[g]? =some (.cells cs t fr))
  (hu:P.underlying ty=some d)(hd:(match d with|.struct _|.array _ _=>true|_=>false)=true)(hi:(P.info? ty).map (·.size)=some cs.size)
  (h:wpList P ops Q rest (a.put o.dst (.agg cs)) w):wpList P ops Q (o::rest) a w:=by
 unfold wpList;rw[if_pos hw];exact .inl (wp_load_row ty x ho g hx t cs fr d hg hu hd hi h)
section
variable {H:Type}{enc:TypeId×Value→H}{P:Program}
end
end Go.Proofs.YtjjmalchelniiaaGreatDoor
namespace Go.Proofs.YtjjmalchelniiaaGreatDoor
open Go.RowKit
abbrev Ev:=Bool×Int×Int
def Qjx (x:Ev):List Value:=[.bool x.1,.int .i64 x.2.1,.int .i64 x.2.2]
def Yhc (l:List Ev):List Value:=l.flatMap Qjx
theorem Yn3 (l:List Ev)(x:Ev):Yhc (l++[x])=Yhc l++Qjx x:=by simp[Yhc]
theorem Y7o (l:List Ev):∀(i:Nat) (h:i<l.length),(Yhc l)[3*i]? =some (.bool l[i].1)∧(Yhc l)[3*i+1]? =some (.int .i64 l[i].2.1)∧(Yhc l)[3*i+2]? =some (.int .i64 l[i].2.2):=by
 induction l with
 |nil=>intro i h;cases h
 |cons p l ih=>
  intro i h
  match i with
  |0=>exact⟨rfl,rfl,rfl⟩
  |i+1=>
   have:=ih i (by simpa using h);rw[Yhc,List.flatMap_cons,show 3*(i+1)=(Qjx p).length+3*i by simp[Qjx];omega];rw[List.getElem?_append_right (by omega),Nat.add_sub_cancel_left,Nat.add_assoc,Nat.add_assoc,List.getElem?_append_right (by omega),List.getElem?_append_right (by omega),Nat.add_sub_cancel_left,Nat.add_sub_cancel_left];exact this
def evs (f:Nat→Int)(a:Nat):Nat→List Ev×Nat
 |0=>([],0)
 |k+1=>if k<a then evs f a k else if f k=0 then ((evs f a k).1,(evs f a k).2+1) else ((evs f a k).1++[(false,((evs f a k).2:Int),f k)],0)
def okl (v:Int):Bool:=decide (-127≤v)&&decide (v≤127)
def bad (f:Nat→Int)(a:Nat):Nat→Bool
 |0=>false
 |k+1=>bad f a k || (decide (a≤k) && !okl (f k))
def lvS (a:Nat)(l:List Ev):Nat×(Nat→Int):=l.foldl (fun s e=>(s.1+e.2.1.toNat+1,Y2g s.2 (s.1+e.2.1.toNat) e.2.2)) (a,fun _=>0)
theorem Y1x (a:Nat)(l:List Ev)(e:Ev):lvS a (l++[e])=((lvS a l).1+e.2.1.toNat+1,Y2g (lvS a l).2 ((lvS a l).1+e.2.1.toNat) e.2.2):=by
 unfold lvS;rw[List.foldl_append]
 rfl
theorem Yts (a:Nat)(l:List Ev){j:Nat}(h:j<l.length):lvS a (l.take (j+1))=((lvS a (l.take j)).1+l[j].2.1.toNat+1,Y2g (lvS a (l.take j)).2 ((lvS a (l.take j)).1+l[j].2.1.toNat) l[j].2.2):=by
 rw[List.take_succ_eq_append_getElem h,Y1x]
def Yu2 (a:Nat)(l:List Ev)(j:Nat)(e:Ev):Bool:=Yec e.2.1 e.2.2&&(e.1==decide (j+1=l.length))&&decide ((lvS a (l.take j)).1+e.2.1.toNat<64)
def Yp9 (a:Nat)(l:List Ev):Nat→Bool
 |0=>false
 |j+1=>Yp9 a l j || (match l[j]? with|some e=>!Yu2 a l j e|none=>false)
theorem Yvf {a:Nat}{l:List Ev}{k:Nat}(h:Yp9 a l k=true):∀d,Yp9 a l (k+d)=true
 |0=>h
 |d+1=>by rw[←Nat.add_assoc,Yp9,Yvf h d];rfl
theorem Y66 {a:Nat}{l:List Ev}{j:Nat}(hj:j<l.length)(h:Yu2 a l j l[j]=false):Yp9 a l l.length=true:=by
 have h1:Yp9 a l (j+1)=true:=by
  rw[Yp9,List.getElem?_eq_getElem hj];simp[h]
 have:=Yvf h1 (l.length-(j+1));rwa [show j+1+(l.length-(j+1))=l.length by omega] at this
theorem Ys3 {a:Nat}{l:List Ev}:∀k,k≤l.length→(∀j,(h:j<l.length)→j<k→Yu2 a l j l[j]=true)→Yp9 a l k=false
 |0,_,_=>rfl
 |k+1,hk,h=>by
  rw[Yp9,Ys3 k (by omega) fun j h1 h2=>h j h1 (by omega),List.getElem?_eq_getElem (by omega)];simp[h k (by omega) (by omega)]
theorem Yld {a:Nat}{l:List Ev}(h:Yp9 a l l.length=false){j:Nat}(hj:j<l.length):Yu2 a l j l[j]=true:=by
 cases h2:Yu2 a l j l[j] with
 |true=>rfl
 |false=>rw[Y66 hj h2] at h;cases h
def lvG (l:List Ev)(a:Int):(Nat→Int)×Int:=if a=0∨a=1 then (if Yp9 a.toNat l l.length then (fun _=>0,7) else ((lvS a.toNat l).2,0)) else (fun _=>0,1)
end Go.Proofs.YtjjmalchelniiaaGreatDoor
namespace Go.Proofs.YtjjmalchelniiaaGreatDoor
open Go.RowKit Go.Lib Go.ChangeShapes Go.WideShapes Go.ChangeAt
def Ye2 (w:World)(p:Option Addr)(l:List Ev):Prop:=
 l=[]∨∃b o,p=some ⟨b,o,none⟩∧b<w.heap.size∧∀i,(h:i<l.length)→w.cell? ⟨b,o+i*3,none⟩=some (.bool l[i].1)∧w.cell? ⟨b,o+i*3+1,none⟩=some (.int .i64 l[i].2.1)∧w.cell? ⟨b,o+i*3+2,none⟩=some (.int .i64 l[i].2.2)
theorem Ye2.below {w w':World}{p:Option Addr}{l:List Ev}(h:Ye2 w p l)(hb:Below w.heap.size w w'):Ye2 w' p l:=by
 rcases h with h|⟨b,o,h1,h2,h3⟩
 ·exact .inl h
 ·refine .inr ⟨b,o,h1,Nat.lt_of_lt_of_le h2 hb.size,fun i hi=>?_⟩;rw[hb.cell (p:=⟨b,o+i*3,none⟩) h2,hb.cell (p:=⟨b,o+i*3+1,none⟩) h2,hb.cell (p:=⟨b,o+i*3+2,none⟩) h2];exact h3 i hi
theorem Ye2.at {w:World}{p:Option Addr}{l:List Ev}(h:Ye2 w p l)(h0:0<l.length):
  ∃b o,p=some ⟨b,o,none⟩∧b<w.heap.size∧∀i,(h:i<l.length)→w.cell? ⟨b,o+i*3,none⟩=some (.bool l[i].1)∧w.cell? ⟨b,o+i*3+1,none⟩=some (.int .i64 l[i].2.1)∧w.cell? ⟨b,o+i*3+2,none⟩=some (.int .i64 l[i].2.2):=by
 rcases h with rfl|h
 ·cases h0
 ·exact h
theorem Qep {w:World}{base e:Nat}{v:Value}{l:List Ev}(h:w.ownsRow base e 3 v l.length (Yhc l)):∃(q:Option Addr) (cap:Nat),v=.slice q l.length cap∧Ye2 w q l:=by
 have h0:=h;rcases h.2 with ⟨rfl,h1⟩|⟨g,cap,cur,rfl,_,hg,_⟩
 ·exact⟨none,0,by rw[h1],.inl (List.eq_nil_of_length_eq_zero h1)⟩
 ·refine⟨_,cap,rfl,.inr ⟨g,0,rfl,(Array.getElem?_eq_some_iff.1 hg).1,fun i hi=>?_⟩⟩;obtain⟨a0,a1,a2⟩:=Y7o l i hi;rw[Nat.zero_add,Nat.mul_comm i 3];exact⟨(h0.cellAt (3*i) (by omega)).trans a0,(h0.cellAt (3*i+1) (by omega)).trans a1,(h0.cellAt (3*i+2) (by omega)).trans a2⟩
section
variable {H:Type}{enc:TypeId×Value→H}{P:Program}
end
end Go.Proofs.YtjjmalchelniiaaGreatDoor
namespace Go.Proofs.YtjjmalchelniiaaGreatDoor
open Go.RowKit Go.Lib
structure Cel where
 stuff:Int
 skip:Bool
 kind:Int
 step:Int
 mx:Int
 my:Int
 dc:Nat→Int
 ev:Nat→List Ev
def Yma:Cel:=⟨0,false,0,0,0,0,fun _=>0,fun _=>[]⟩
def Ybd (c:Cel)(sl:Nat→Value):List Value:=
 [.int .i64 c.stuff,.bool c.skip,.int .i64 c.kind,.int .i64 c.step,.int .i64 c.mx,.int .i64 c.my,
  .int .i64 (c.dc 0),.int .i64 (c.dc 1),.int .i64 (c.dc 2),.int .i64 (c.dc 3),.int .i64 (c.dc 4),.int .i64 (c.dc 5),sl 0,sl 1,sl 2,sl 3,sl 4,sl 5]
def nilS:Nat→Value:=fun _=>.slice none 0 0
theorem Y7j (c:Cel)(sl:Nat→Value):∀i,i<6→(Ybd c sl)[6+i]? =some (.int .i64 (c.dc i))
 |0,_=>rfl
 |1,_=>rfl
 |2,_=>rfl
 |3,_=>rfl
 |4,_=>rfl
 |5,_=>rfl
theorem Qhd (c:Cel)(sl:Nat→Value):∀i,i<6→(Ybd c sl)[12+i]? =some (sl i)
 |0,_=>rfl
 |1,_=>rfl
 |2,_=>rfl
 |3,_=>rfl
 |4,_=>rfl
 |5,_=>rfl
def Qj6 (c d:Cel):Bool:=c.stuff==d.stuff&&c.skip==d.skip&&c.kind==d.kind&&c.step==d.step&&(c.mx==d.mx&&c.my==d.my)&&(List.range 6).all fun i=>c.dc i==d.dc i
def evB (c d:Cel):Bool:=(List.range 6).all fun i=>decide (c.ev i=d.ev i)
def Qgi (c d:Cel):Bool:=evB c d&&Qj6 c d
theorem Qhn {c d:Cel}(h:∀i,i<6→c.ev i=d.ev i):evB c d=true:=by
 unfold evB;rw[List.all_eq_true];intro i hi
 simpa using h i (List.mem_range.1 hi)
def Ymt (w:World)(c:Cel)(p:Nat→Option Addr)(n:Nat→Nat):Prop:=∀i,i<6→n i=(c.ev i).length∧n i≤1048576∧Ye2 w (p i) (c.ev i)
theorem Ymt.below {w x:World}{c:Cel}{p:Nat→Option Addr}{n:Nat→Nat}(h:Ymt w c p n)(hb:Below w.heap.size w x):Ymt x c p n:=
 fun i hi=>⟨(h i hi).1,(h i hi).2.1,(h i hi).2.2.below hb⟩
end Go.Proofs.YtjjmalchelniiaaGreatDoor