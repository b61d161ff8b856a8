/- No condition. -/
import Derived.Test.YtdnjefldijjgdaaGreatDoorRebuildCellsMb
import Derived.Test.YtdnjefldijjgdaaGreatDoorRebuildCellsMc
import Derived.Test.YtdnjefldijjgdaaGreatDoorRebuildCellsMd
import Derived.Test.YtdnjefldijjgdaaGreatDoorRebuildCellsMf
import Derived.WalkMore
import Derived.Test.YtdnjefldijjgdaaGreatDoorChecked
import Derived.Lib.Hide
import Derived.Below
import Derived.WalkKit
import Derived.OwnWalk
import Derived.IntWalk
import Derived.Laws.ResultCell
import Derived.Laws.Rows
import Derived.Laws.OwnMore
import Derived.Deep.AppendLies
import Derived.Maps.AppendAt
import Derived.ChangeKeysEq
import Derived.RegionTactic
namespace Go.Proofs.YtdnjefldijjgdaaGreatDoor
open Go.RowKit Go.Lib Go.ChangeShapes Go.WideShapes Go.ChangeAt
def Ycr (run level:Int):Bool:=decide (0≤run)&&decide (run≤63)&&decide (-127≤level)&&decide (level≤127) && !(level==0)
theorem Yds {run level:Int}:Ycr run level=true↔0≤run∧run≤63∧-127≤level∧level≤127∧level≠0:=by
 unfold Ycr;simp[Bool.and_eq_true,and_assoc]
def Ymt (last:Bool)(run level:Int):Obj:=.cells [.bool last,.int .i64 run,.int .i64 level].toArray 82 (0,0)
theorem Yhl (last:Bool)(run level:Int)(w:World):Calls Tryz.prog 96 #[.agg #[.bool last,.int .i64 run,.int .i64 level]] w fun e w'=>e=.returned (.bool (Ycr run level))∧Below w.heap.size w w':=by
 have hb:∀o,Below w.heap.size w (w.alloc o):=fun o=>(Below.refl _ w).alloc (Nat.le_refl _) o;have hT:Ycr run level=(decide (0≤run)&&decide (run≤63)&&decide (-127≤level)&&decide (level≤127) && !(level==0)):=rfl;have HT:=Lib.hid hT;clear hT;cases g0:decide (0≤run)
 ·go_enter Tryz.func96,Tryz.ntmps96
  go_wp2
  go_ret
  exact⟨Yac (by rw[HT.out,g0];rfl),hb _⟩
 cases g1:decide (run≤63)
 ·go_enter Tryz.func96,Tryz.ntmps96
  go_wp2
  go_ret
  exact⟨Yac (by rw[HT.out,g0,g1];rfl),hb _⟩
 cases g2:decide (-127≤level)
 ·go_enter Tryz.func96,Tryz.ntmps96
  go_wp2
  go_ret
  exact⟨Yac (by rw[HT.out,g0,g1,g2];rfl),hb _⟩
 cases g3:decide (level≤127)
 ·go_enter Tryz.func96,Tryz.ntmps96
  go_wp2
  go_ret
  exact⟨Yac (by rw[HT.out,g0,g1,g2,g3];rfl),hb _⟩
 cases g4:level==0
 all_goals
  have g5:=Lib.hid (show (level != 0) = !(level==0) from rfl)
  go_enter Tryz.func96,Tryz.ntmps96
  go_wp2
  go_ret
  exact⟨Yac (by rw[HT.out,g5.out,g0,g1,g2,g3,g4];rfl),hb _⟩
theorem Yk7 (last:Bool)(run level:Int)(w:World):Calls Tryz.prog 50 #[.agg #[.bool last,.int .i64 run,.int .i64 level]] w fun e w'=>e=.returned (.bool (Ycr run level))∧Below w.heap.size w w':=by
 have hb:∀o,Below w.heap.size w (w.alloc o):=fun o=>(Below.refl _ w).alloc (Nat.le_refl _) o;have hT:Ycr run level=(decide (0≤run)&&decide (run≤63)&&decide (-127≤level)&&decide (level≤127) && !(level==0)):=rfl;have HT:=Lib.hid hT;clear hT;cases g0:decide (0≤run)
 ·go_enter Tryz.func50,Tryz.ntmps50
  go_wp2
  go_ret
  exact⟨Yac (by rw[HT.out,g0];rfl),hb _⟩
 cases g1:decide (run≤63)
 ·go_enter Tryz.func50,Tryz.ntmps50
  go_wp2
  go_ret
  exact⟨Yac (by rw[HT.out,g0,g1];rfl),hb _⟩
 cases g2:decide (-127≤level)
 ·go_enter Tryz.func50,Tryz.ntmps50
  go_wp2
  go_ret
  exact⟨Yac (by rw[HT.out,g0,g1,g2];rfl),hb _⟩
 cases g3:decide (level≤127)
 ·go_enter Tryz.func50,Tryz.ntmps50
  go_wp2
  go_ret
  exact⟨Yac (by rw[HT.out,g0,g1,g2,g3];rfl),hb _⟩
 cases g4:level==0
 all_goals
  have g5:=Lib.hid (show (level != 0) = !(level==0) from rfl)
  go_enter Tryz.func50,Tryz.ntmps50
  go_wp2
  go_ret
  exact⟨Yac (by rw[HT.out,g5.out,g0,g1,g2,g3,g4];rfl),hb _⟩
theorem Yfv {x:World}{B:Nat}{last:Bool}{r v:Int}(h:x.heap[B]? =some (Ymt last r v)):
  x.cell? ⟨B,0,none⟩=some (.bool last)∧x.cell? ⟨B,1,none⟩=some (.int .i64 r)∧x.cell? ⟨B,2,none⟩=some (.int .i64 v)∧x.frozen? ⟨B,0,none⟩=false∧x.frozen? ⟨B,1,none⟩=false∧x.frozen? ⟨B,2,none⟩=false:=
 ⟨Yae h rfl,Yae h rfl,Yae h rfl,Yb9 (o:=0) h,Yb9 (o:=1) h,Yb9 (o:=2) h⟩
def Yhy (f:Nat→Int):List Value:=(List.range 64).map fun i=>.int .i64 (f i)
theorem Yc1 (f:Nat→Int):(Yhy f).length=64:=by simp[Yhy]
theorem Ye6 (f:Nat→Int){i:Nat}(h:i<64):(Yhy f)[i]? =some (.int .i64 (f i)):=by simp[Yhy,h]
theorem Ymg {f g:Nat→Int}(h:∀i,i<64→f i=g i):Yhy f=Yhy g:=by
 unfold Yhy;refine List.map_congr_left fun i hi=>?_;rw[h i (List.mem_range.1 hi)]
theorem Yqm (f:Nat→Int):∀v∈Yhy f,v.oneCell'=true:=by
 intro v hv;obtain⟨i,_,rfl⟩:=List.mem_map.1 hv
 rfl
def Yb7 (f:Nat→Int)(i:Nat)(v:Int):Nat→Int:=fun k=>if k=i then v else f k
theorem Yqn (f:Nat→Int){i:Nat}(v:Int):(Yhy f).set i (.int .i64 v)=Yhy (Yb7 f i v):=by
 refine List.ext_getElem? fun k=>?_;rw[List.getElem?_set,Yc1];by_cases hk:k<64
 ·by_cases e:i=k
  ·subst e;rw[if_pos rfl,if_pos hk,Ye6 _ hk];simp[Yb7]
  ·rw[if_neg e,Ye6 _ hk,Ye6 _ hk];unfold Yb7;rw[if_neg (fun h=>e h.symm)]
 ·by_cases e:i=k
  ·subst e;rw[if_pos rfl,if_neg hk,List.getElem?_eq_none (by rw[Yc1];omega)]
  ·rw[if_neg e,List.getElem?_eq_none (by rw[Yc1];omega),List.getElem?_eq_none (by rw[Yc1];omega)]
def Yay (f:Nat→Int):Array Value:=(Yhy f).toArray
theorem Yak (f:Nat→Int):(Yay f).size=64:=Yc1 f
theorem Ykm (f:Nat→Int){i:Nat}(h:i<64):(Yay f)[i]? =some (.int .i64 (f i)):=by
 unfold Yay;rw[List.getElem?_toArray];exact Ye6 f h
theorem Ya0 (f:Nat→Int):(Yay f).all (·.oneCell')=true:=by
 rw[Array.all_eq_true_iff_forall_mem];intro v hv;exact Yqm f v (by simpa [Yay] using hv)
theorem Ye5 {f g:Nat→Int}(h:∀i,i<64→f i=g i):Yay f=Yay g:=congrArg List.toArray (Ymg h)
def Yb8 (f:Nat→Int):Obj:=.cells (Yay f) 36 (0,0)
def Yql (f g:Nat→Int):Bool:=(List.range 64).all fun i=>f i==g i
theorem Yn1 {f g:Nat→Int}:Yql f g=true↔∀i,i<64→f i=g i:=by simp[Yql]
theorem Ylm:(Tryz.prog.info? 36).map (·.size)=some 64:=by kernel_rfl
theorem Yan (f:Nat→Int):(Tryz.prog.info? 36).map (·.size)=some (Yay f).size:=by rw[Yak];exact Ylm
theorem Ydh:∃i,Tryz.prog.info? 3=some i:=by
 cases h:Tryz.prog.info? 3 with
 |some i=>exact⟨i,rfl⟩
 |none=>
  have h2:(Tryz.prog.info? 3).isSome=true:=by kernel_rfl
  rw[h] at h2;cases h2
theorem Ycq:Tryz.prog.cellsOf 3=1:=by kernel_rfl
theorem Yb2:Tryz.prog.plainKey 3=true:=by kernel_rfl
theorem Yk1 (f:Nat→Int){i:Nat}(h:i<64)(w:World):(part 3 (Yay f) i).run Tryz.prog w=.ok (.int .i64 (f i)) w:=run_part_plain w Yb2 (Ykm f h)
theorem Yf6 (f:Nat→Int){i:Nat}(h:i<64)(w:World):(Instr.index 36 (.agg (Yay f)) (.int .i64 (i:Int))).run Tryz.prog w=.ok (.int .i64 (f i)) w:=by
 obtain⟨j,hj⟩:=Ydh;have h1:(0:Int)≤(i:Int)∧(i:Int)<((64:Nat):Int):=by omega
 simp only[Instr.index,asIntOf,Sem.run_bind,Sem.run_pure,Result.andThen_ok,run_underlying Tryz.underlying36,if_pos h1,run_sizeOf w hj,Ycq,Nat.mul_one,Int.toNat_natCast];exact Yk1 f h w
theorem Yh8 (d:Nat)(f g:Nat→Int)(w:World):∀is:List Nat,(∀i∈is,i<64)→(Op.eqItems (d+1) 3 (Tryz.prog.cellsOf 3) (Yay f) (Yay g) is).run Tryz.prog w=.ok (is.all fun i=>f i==g i) w
 |[],_=>by simp[Op.eqItems]
 |i::is,h=>by
  have hi:=h i List.mem_cons_self;have p1:=Yk1 f hi w;have p2:=Yk1 g hi w;have p3:=run_equalIn_int (P:=Tryz.prog) w d 3 .i64 .i64 (f i) (g i) Tryz.underlying3;have ih:=Yh8 d f g w is fun k hk=>h k (List.mem_cons_of_mem _ hk);rw[Ycq] at ih ⊢;simp only[Op.eqItems,Sem.run_bind,Nat.mul_one,p1,p2,p3,Result.andThen_ok,List.all_cons];cases hq:(f i==g i) with
  |false=>simp
  |true=>simpa using ih
theorem Yn3 (f g:Nat→Int)(w:World):(Op.equalIn 10000 36 (.agg (Yay f)) (.agg (Yay g))).run Tryz.prog w=.ok (Yql f g) w:=by
 obtain⟨j,hj⟩:=Ydh;have h:=run_equalIn_array (P:=Tryz.prog) w 9999 (Yay f) (Yay g) Tryz.underlying36 hj;exact h.trans (Yh8 9998 f g w (List.range 64) fun i hi=>List.mem_range.1 hi)
theorem Ybd (w:World):(zeroValue 36).run Tryz.prog w=.ok (.agg (Yay fun _=>0)) w:=by
 have h:(Tryz.prog.info? 36).map (fun i=>i.zero)=some (some (.agg (Yay fun _=>0))):=by kernel_rfl
 generalize (Yay fun _=>0)=Z at h ⊢;cases hq:Tryz.prog.info? 36 with
 |none=>simp[hq] at h
 |some i=>
  simp[hq] at h;simp[zeroValue,typeInfo,hq,h]
theorem Ya3 {w:World}{B i:Nat}{f:Nat→Int}(h:w.heap[B]? =some (Yb8 f))(hi:i<64):w.cell? ⟨B,i,none⟩=some (.int .i64 (f i)):=by
 rw[cell_of_row w B i _ _ _ h];exact Ykm f hi
theorem Yb3 {w:World}{B i:Nat}{f:Nat→Int}(h:w.heap[B]? =some (Yb8 f)):w.frozen? ⟨B,i,none⟩=false:=frozen_of_row w B i _ _ h
theorem Yci {w:World}{B i:Nat}{f:Nat→Int}(v:Int)(h:w.heap[B]? =some (Yb8 f)):(w.setCell ⟨B,i,none⟩ (.int .i64 v)).heap[B]? =some (Yb8 (Yb7 f i v)):=by
 rw[heap_setCell_same w B i _ _ _ h];unfold Yb8;rw[show (Yay f).setIfInBounds i (.int .i64 v)=Yay (Yb7 f i v) by unfold Yay;rw[List.setIfInBounds_toArray,Yqn]]
theorem Yad {P:Program}{ops:Array Oper}{rest:List Oper}{op:Oper}{a:Act}{w:World}{Q:Exit→Act→World→Prop}(hgd:op.guard=none)(ty:TypeId)(x y:Operand)(ho:op.op=.store ty x y)
  (b:Nat)(Z old:Array Value)(hx:a.eval x=.pointer (some ⟨b,0,none⟩))(hy:a.eval y=.agg Z)(T:TypeId)(hg:w.heap[b]? =some (.cells old T (0,0)))(hi:(P.info? ty).map (·.size)=some Z.size)(hs:old.size=Z.size)(h1:Z.all (·.oneCell')=true)
  (h:∀w',w'.heap[b]? =some (.cells Z T (0,0))→w.grownBy w' (some b)→wpList P ops Q rest (a.put op.dst undef) w'):wpList P ops Q (op::rest) a w:=
 wpList_store_row hgd ty x y ho b Z hx hy T old hg hi hs h1 (h _ (setRow_heap w b old Z T (0,0) hg) ⟨rfl,rfl,rfl,by simp,fun k _ hk=>setRow_other w b k _ (by intro e;exact hk (by rw[e]))⟩)
theorem Yba {P:Program}{ops:Array Oper}{rest:List Oper}{o:Oper}{a:Act}{w:World}{Q:Exit→Act→World→Prop}(hw:Region.wanted o (yielded ops a.tmps)=true)(ty:TypeId)(x:Operand)(ho:o.op=.load ty x)
  (g:Nat)(hx:a.eval x=.pointer (some ⟨g,0,none⟩))(t:TypeId)(cs:Array Value)(fr:Nat×Nat)(d:TypeDesc)(hg:w.heap[g]? =some (.cells cs t fr))
  (hu:P.underlying ty=some d)(hd:(match d with|.struct _|.array _ _=>true|_=>false)=true)(hi:(P.info? ty).map (·.size)=some cs.size)
  (h:wpList P ops Q rest (a.put o.dst (.agg cs)) w):wpList P ops Q (o::rest) a w:=by
 unfold wpList;rw[if_pos hw];exact .inl (wp_load_row ty x ho g hx t cs fr d hg hu hd hi h)
def Ya6 (g:Nat→Int)(w:World)(e:Ending)(w':World):Prop:=e=.returned (.agg (Yay g))∧Below w.heap.size w w'
theorem Yeu {g h:Nat→Int}{w w':World}{Z:Array Value}(hg:∀i,i<64→h i=g i)(hZ:Yay h=Z)(hb:Below w.heap.size w w'):Ya6 g w (.returned (.agg Z)) w':=by
 unfold Ya6;rw[←hZ,Ye5 hg];exact⟨rfl,hb⟩
def Ya9 (g:Nat→Int):Nat→(Nat→Int)
 |0=>fun _=>0
 |k+1=>Yb7 (Ya9 g k) k (g k)
theorem Yfd (g:Nat→Int):∀k p,Ya9 g k p=if p<k then g p else 0
 |0,p=>rfl
 |k+1,p=>by
  unfold Ya9 Yb7;by_cases e:p=k
  ·subst e;rw[if_pos rfl,if_pos (by omega)]
  ·rw[if_neg e,Yfd g k p];by_cases hlt:p<k
   ·rw[if_pos hlt,if_pos (by omega)]
   ·rw[if_neg hlt,if_neg (by omega)]
theorem Yrw (g:Nat→Int):∀p,p<64→Ya9 g 64 p=g p:=by
 intro p hp;rw[Yfd,if_pos hp]
section
variable {H:Type}{enc:TypeId×Value→H}{P:Program}
end
end Go.Proofs.YtdnjefldijjgdaaGreatDoor
namespace Go.Proofs.YtdnjefldijjgdaaGreatDoor
open Go.RowKit
abbrev Ev:=Bool×Int×Int
def okl (v:Int):Bool:=decide (-127≤v)&&decide (v≤127)
def bad (f:Nat→Int)(a:Nat):Nat→Bool
 |0=>false
 |k+1=>bad f a k || (decide (a≤k) && !okl (f k))
def lvS (a:Nat)(l:List Ev):Nat×(Nat→Int):=l.foldl (fun s e=>(s.1+e.2.1.toNat+1,Yb7 s.2 (s.1+e.2.1.toNat) e.2.2)) (a,fun _=>0)
theorem Yri (a:Nat)(l:List Ev)(e:Ev):lvS a (l++[e])=((lvS a l).1+e.2.1.toNat+1,Yb7 (lvS a l).2 ((lvS a l).1+e.2.1.toNat) e.2.2):=by
 unfold lvS;rw[List.foldl_append]
 rfl
theorem Yie (a:Nat)(l:List Ev){j:Nat}(h:j<l.length):lvS a (l.take (j+1))=((lvS a (l.take j)).1+l[j].2.1.toNat+1,Yb7 (lvS a (l.take j)).2 ((lvS a (l.take j)).1+l[j].2.1.toNat) l[j].2.2):=by
 rw[List.take_succ_eq_append_getElem h,Yri]
def Yjc (a:Nat)(l:List Ev)(j:Nat)(e:Ev):Bool:=Ycr e.2.1 e.2.2&&(e.1==decide (j+1=l.length))&&decide ((lvS a (l.take j)).1+e.2.1.toNat<64)
def Yfp (a:Nat)(l:List Ev):Nat→Bool
 |0=>false
 |j+1=>Yfp a l j || (match l[j]? with|some e=>!Yjc a l j e|none=>false)
theorem Yi2 {a:Nat}{l:List Ev}{k:Nat}(h:Yfp a l k=true):∀d,Yfp a l (k+d)=true
 |0=>h
 |d+1=>by rw[←Nat.add_assoc,Yfp,Yi2 h d];rfl
theorem Ykn {a:Nat}{l:List Ev}{j:Nat}(hj:j<l.length)(h:Yjc a l j l[j]=false):Yfp a l l.length=true:=by
 have h1:Yfp a l (j+1)=true:=by
  rw[Yfp,List.getElem?_eq_getElem hj];simp[h]
 have:=Yi2 h1 (l.length-(j+1));rwa [show j+1+(l.length-(j+1))=l.length by omega] at this
theorem Yh1 {a:Nat}{l:List Ev}:∀k,k≤l.length→(∀j,(h:j<l.length)→j<k→Yjc a l j l[j]=true)→Yfp a l k=false
 |0,_,_=>rfl
 |k+1,hk,h=>by
  rw[Yfp,Yh1 k (by omega) fun j h1 h2=>h j h1 (by omega),List.getElem?_eq_getElem (by omega)];simp[h k (by omega) (by omega)]
theorem Yn4 {a:Nat}{l:List Ev}(h:Yfp a l l.length=false){j:Nat}(hj:j<l.length):Yjc a l j l[j]=true:=by
 cases h2:Yjc a l j l[j] with
 |true=>rfl
 |false=>rw[Ykn hj h2] at h;cases h
def lvG (l:List Ev)(a:Int):(Nat→Int)×Int:=if a=0∨a=1 then (if Yfp a.toNat l l.length then (fun _=>0,7) else ((lvS a.toNat l).2,0)) else (fun _=>0,1)
end Go.Proofs.YtdnjefldijjgdaaGreatDoor
namespace Go.Proofs.YtdnjefldijjgdaaGreatDoor
open Go.RowKit Go.Lib Go.ChangeShapes Go.WideShapes Go.ChangeAt
def Ydk (w:World)(p:Option Addr)(l:List Ev):Prop:=
 l=[]∨∃b o,p=some ⟨b,o,none⟩∧b<w.heap.size∧∀i,(h:i<l.length)→w.cell? ⟨b,o+i*3,none⟩=some (.bool l[i].1)∧w.cell? ⟨b,o+i*3+1,none⟩=some (.int .i64 l[i].2.1)∧w.cell? ⟨b,o+i*3+2,none⟩=some (.int .i64 l[i].2.2)
theorem Ydk.below {w w':World}{p:Option Addr}{l:List Ev}(h:Ydk w p l)(hb:Below w.heap.size w w'):Ydk w' p l:=by
 rcases h with h|⟨b,o,h1,h2,h3⟩
 ·exact .inl h
 ·refine .inr ⟨b,o,h1,Nat.lt_of_lt_of_le h2 hb.size,fun i hi=>?_⟩;rw[hb.cell (p:=⟨b,o+i*3,none⟩) h2,hb.cell (p:=⟨b,o+i*3+1,none⟩) h2,hb.cell (p:=⟨b,o+i*3+2,none⟩) h2];exact h3 i hi
theorem Ydk.at {w:World}{p:Option Addr}{l:List Ev}(h:Ydk w p l)(h0:0<l.length):
  ∃b o,p=some ⟨b,o,none⟩∧b<w.heap.size∧∀i,(h:i<l.length)→w.cell? ⟨b,o+i*3,none⟩=some (.bool l[i].1)∧w.cell? ⟨b,o+i*3+1,none⟩=some (.int .i64 l[i].2.1)∧w.cell? ⟨b,o+i*3+2,none⟩=some (.int .i64 l[i].2.2):=by
 rcases h with rfl|h
 ·cases h0
 ·exact h
def Ye3 (vs:List Value):Prop:=∃(b:Bool) (x y:Int),vs=[.bool b,.int .i64 x,.int .i64 y]∧(Lit.int .i64 x).wf=true∧(Lit.int .i64 y).wf=true
section
variable {H:Type}{enc:TypeId×Value→H}{P:Program}
theorem Yop {w:World}{base:Nat}{sp:Nat→Bool}{held:Bool}{e tb ti:TypeId}{f0 f1 f2:Field}
  (he:P.underlying e=some (.struct #[f0,f1,f2]))(hb:P.underlying tb=some .bool)(hi:P.underlying ti=some (.int .i64))(e0:f0.type=tb)(e1:f1.type=ti)(e2:f2.type=ti)(o0:f0.offset=0)(o1:f1.offset=1)(o2:f2.offset=2)(cb:P.cellsOf tb=1)(ci:P.cellsOf ti=1):
  ∀k (vs:List Value) y,vs.length=3→DataW.trod enc P w base sp held k e vs=some y→Ye3 vs:=by
 intro k vs y hl h;obtain⟨xs,k,hk,hxy,_,hxl,hfs⟩:=DataW.trod_struct he h
 match xs,hxl,vs,hl with
 |[y0,y1,y2],_,[v0,v1,v2],_=>
  have g0:=hfs 0 f0 rfl;have g1:=hfs 1 f1 rfl;have g2:=hfs 2 f2 rfl;rw[e0,o0,cb] at g0;rw[e1,o1,ci] at g1;rw[e2,o2,ci] at g2;obtain⟨x0,q0,_⟩:=DataW.trod_bool hb (show DataW.trod _ P w base sp held k tb [v0]=some y0 from g0);obtain⟨x1,q1,_,w1⟩:=DataW.trod_int hi (show DataW.trod _ P w base sp held k ti [v1]=some y1 from g1)
  obtain⟨x2,q2,_,w2⟩:=DataW.trod_int hi (show DataW.trod _ P w base sp held k ti [v2]=some y2 from g2);injection q0 with q0;injection q1 with q1;injection q2 with q2;subst q0 q1 q2;exact⟨x0,x1,x2,rfl,w1,w2⟩
end
theorem Yr7 {W:World}{p:Option Addr}{len:Nat}(h:Yf4 W Ye3 3 p len):∃l:List Ev,l.length=len∧Ydk W p l∧∀i,(h:i<l.length)→(Lit.int .i64 l[i].2.1).wf=true∧(Lit.int .i64 l[i].2.2).wf=true:=by
 rcases h with rfl|⟨b,o,hp,hb,hc⟩
 ·exact⟨[],rfl,.inl rfl,fun i h=>by cases h⟩
 ·have each:∀i,∃e:Ev,i<len→(W.cell? ⟨b,o+i*3,none⟩=some (.bool e.1)∧W.cell? ⟨b,o+i*3+1,none⟩=some (.int .i64 e.2.1)∧W.cell? ⟨b,o+i*3+2,none⟩=some (.int .i64 e.2.2))∧(Lit.int .i64 e.2.1).wf=true∧(Lit.int .i64 e.2.2).wf=true:=by
   intro i;by_cases hi:i<len
   ·obtain⟨vs,_,⟨x,y,z,rfl,w1,w2⟩,hv⟩:=hc i hi;exact⟨(x,y,z),fun _=>⟨⟨hv 0 _ rfl,hv 1 _ rfl,hv 2 _ rfl⟩,w1,w2⟩⟩
   ·exact⟨(false,0,0),fun h=>absurd h hi⟩
  refine⟨(List.range len).map fun i=>Classical.choose (each i),by simp,.inr ⟨b,o,hp,hb,fun i hi=>?_⟩,fun i hi=>?_⟩
  ·have hi':i<len:=by simpa using hi
   simp only[List.getElem_map,List.getElem_range];exact(Classical.choose_spec (each i) hi').1
  ·have hi':i<len:=by simpa using hi
   simp only[List.getElem_map,List.getElem_range];exact(Classical.choose_spec (each i) hi').2
end Go.Proofs.YtdnjefldijjgdaaGreatDoor
namespace Go.Proofs.YtdnjefldijjgdaaGreatDoor
open Go.RowKit Go.Lib
structure Cel where
 stuff:Int
 skip:Bool
 kind:Int
 step:Int
 mx:Int
 my:Int
 dc:Nat→Int
 ev:Nat→List Ev
def celZ:Cel:=⟨0,false,0,0,0,0,fun _=>0,fun _=>[]⟩
def six {α:Type}(a b c d e f:α):Nat→α
 |0=>a
 |1=>b
 |2=>c
 |3=>d
 |4=>e
 |_=>f
def Ycs (c:Cel)(sl:Nat→Value):List Value:=
 [.int .i64 c.stuff,.bool c.skip,.int .i64 c.kind,.int .i64 c.step,.int .i64 c.mx,.int .i64 c.my,
  .int .i64 (c.dc 0),.int .i64 (c.dc 1),.int .i64 (c.dc 2),.int .i64 (c.dc 3),.int .i64 (c.dc 4),.int .i64 (c.dc 5),sl 0,sl 1,sl 2,sl 3,sl 4,sl 5]
def nilS:Nat→Value:=fun _=>.slice none 0 0
theorem Yc7 (c:Cel)(sl:Nat→Value):∀i,i<6→(Ycs c sl)[6+i]? =some (.int .i64 (c.dc i))
 |0,_=>rfl
 |1,_=>rfl
 |2,_=>rfl
 |3,_=>rfl
 |4,_=>rfl
 |5,_=>rfl
theorem Yc8 (c:Cel)(sl:Nat→Value):∀i,i<6→(Ycs c sl)[12+i]? =some (sl i)
 |0,_=>rfl
 |1,_=>rfl
 |2,_=>rfl
 |3,_=>rfl
 |4,_=>rfl
 |5,_=>rfl
def Yc6 (w:World)(c:Cel)(p:Nat→Option Addr)(n:Nat→Nat):Prop:=∀i,i<6→n i=(c.ev i).length∧n i≤1048576∧Ydk w (p i) (c.ev i)
theorem Yc6.below {w x:World}{c:Cel}{p:Nat→Option Addr}{n:Nat→Nat}(h:Yc6 w c p n)(hb:Below w.heap.size w x):Yc6 x c p n:=
 fun i hi=>⟨(h i hi).1,(h i hi).2.1,(h i hi).2.2.below hb⟩
end Go.Proofs.YtdnjefldijjgdaaGreatDoor
namespace Go.Proofs.YtdnjefldijjgdaaGreatDoor
open Go.RowKit Go.Lib Go.ChangeShapes Go.WideShapes Go.ChangeAt
section
variable {H:Type}{enc:TypeId×Value→H}{P:Program}
theorem Ydt {w:World}{base fuel:Nat}{sp:Nat→Bool}{held:Bool}{t e:TypeId}{v:Value}{x:DataW H×List MemPlace}(c:Nat)(Q:List Value→Prop)
  (ht:P.underlying t=some (.slice e))(ce:P.cellsOf e=c)(hc:0<c)(hq:∀k vs y,vs.length=c→DataW.trod enc P w base sp held k e vs=some y→Q vs)
  (hf:DataW.trod enc P w base sp held fuel t [v]=some x):∃p len cap,v=.slice p len cap∧len≤maxLen∧Yf4 w Q c p len:=by
 rcases Go.Deep.open_slice ht hf with ⟨h1,_⟩|⟨a',len',cap',m,n,D,Pl,h1,hb,hl,hm,hmm,_,hx⟩
 ·injection h1 with h1;exact⟨none,0,0,h1,Nat.zero_le _,.inl rfl⟩
 ·injection h1 with h1;refine⟨some a',len',cap',h1,by omega,?_⟩;have hlm:len'≤m:=by rw[hmm];split <;> omega
  have each:∀i,i<len'→∃vs:List Value,vs.length=c∧Q vs∧∀(j:Nat) v,vs[j]? =some v→w.cell? (a'.add (i*c+j))=some v:=by
   intro i hil;obtain⟨cs',h1,h2⟩:=hx i (by omega);rw[ce] at h1;obtain⟨_,hlen,hcell⟩:=World.cells?_some h1;refine⟨cs',hlen,hq _ _ _ hlen h2,fun j v hj=>?_⟩;have hjc:j<c:=by rw[←hlen];exact(List.getElem?_eq_some_iff.1 hj).1
   have:=hcell j hjc;rw[Go.Deep.add_add] at this;rw[this,hj]
  by_cases h0:len'=0
  ·exact .inl h0
  ·right
   obtain⟨vs,hl0,_,hv⟩:=each 0 (by omega);have ca:=hv 0 _ (List.getElem?_eq_getElem (by omega));rw[show 0*c+0=0 by omega] at ca;have ca:w.cell? a'=_:=ca;have ea:=Yj3 ca;refine⟨a'.block,a'.off,by rw[←ea],Yh3 ca,fun i hil=>?_⟩;obtain⟨vs,h1,h2,h3⟩:=each i hil;refine⟨vs,h1,h2,fun j v hj=>?_⟩;have:=h3 j v hj;rw[ea,Addr.add_mid,←Nat.add_assoc] at this;exact this
end
section
variable {H:Type}{enc:TypeId×Value→H}{P:Program}
theorem Yk0 {w:World}{base fuel:Nat}{sp:Nat→Bool}{held:Bool}{t e:TypeId}{c0 c1:Value}{x:DataW H×List MemPlace}
  (ht:P.underlying t=some (.array 2 e))(he:P.underlying e=some (.int .i64))(hce:P.cellsOf e=1)(hf:DataW.trod enc P w base sp held fuel t [c0,c1]=some x):
  ∃a b:Int,c0=.int .i64 a∧c1=.int .i64 b∧(Lit.int .i64 a).wf=true∧(Lit.int .i64 b).wf=true:=by
 obtain⟨xs,m,_,_,_,hl,hel⟩:=DataW.trod_array ht hf;rw[hce] at hel
 match xs,hl with
 |[y0,y1],_=>
  obtain⟨x0,q0,_,w0⟩:=DataW.trod_int he (show DataW.trod _ P w base sp held m e [c0]=some y0 from hel 0 (by omega));obtain⟨x1,q1,_,w1⟩:=DataW.trod_int he (show DataW.trod _ P w base sp held m e [c1]=some y1 from hel 1 (by omega));injection q0 with q0;injection q1 with q1;exact⟨x0,x1,q0,q1,w0,w1⟩
theorem Ygm {w:World}{base fuel:Nat}{sp:Nat→Bool}{held:Bool}{t e:TypeId}{c0 c1 c2 c3 c4 c5:Value}{x:DataW H×List MemPlace}
  (ht:P.underlying t=some (.array 6 e))(hce:P.cellsOf e=1)(hf:DataW.trod enc P w base sp held fuel t [c0,c1,c2,c3,c4,c5]=some x):
  ∃(m:Nat) (y0 y1 y2 y3 y4 y5:DataW H×List MemPlace),DataW.trod enc P w base sp held m e [c0]=some y0∧DataW.trod enc P w base sp held m e [c1]=some y1∧DataW.trod enc P w base sp held m e [c2]=some y2∧DataW.trod enc P w base sp held m e [c3]=some y3∧DataW.trod enc P w base sp held m e [c4]=some y4∧DataW.trod enc P w base sp held m e [c5]=some y5:=by
 obtain⟨xs,m,_,_,_,hl,hel⟩:=DataW.trod_array ht hf;rw[hce] at hel
 match xs,hl with
 |[y0,y1,y2,y3,y4,y5],_=>exact⟨m,y0,y1,y2,y3,y4,y5,hel 0 (by omega),hel 1 (by omega),hel 2 (by omega),hel 3 (by omega),hel 4 (by omega),hel 5 (by omega)⟩
theorem Yeg {w:World}{base fuel:Nat}{sp:Nat→Bool}{held:Bool}{e:TypeId}{c:Value}{x:DataW H×List MemPlace}(he:P.underlying e=some (.int .i64))(hf:DataW.trod enc P w base sp held fuel e [c]=some x):
  ∃a:Int,c=.int .i64 a∧(Lit.int .i64 a).wf=true:=by
 obtain⟨a,q,_,h⟩:=DataW.trod_int he hf;injection q with q;exact⟨a,q,h⟩
theorem Ykz {w:World}{base:Nat}{sp:Nat→Bool}{held:Bool}{t tb ti t2 t6 te6 ts te:TypeId}{f0 f1 f2 f3 f4 f5 f6:Field}{cs':Array Value}{d:DataW H}{ps:List MemPlace}(c:Nat)(Q:List Value→Prop)
  (ht:P.underlying t=some (.struct #[f0,f1,f2,f3,f4,f5,f6]))(hb:P.underlying tb=some .bool)(hi:P.underlying ti=some (.int .i64))(h2:P.underlying t2=some (.array 2 ti))(h6:P.underlying t6=some (.array 6 ti))(he6:P.underlying te6=some (.array 6 ts))(hs:P.underlying ts=some (.slice te))
  (e:f0.type=ti∧f1.type=tb∧f2.type=ti∧f3.type=ti∧f4.type=t2∧f5.type=t6∧f6.type=te6)(o:f0.offset=0∧f1.offset=1∧f2.offset=2∧f3.offset=3∧f4.offset=4∧f5.offset=6∧f6.offset=12)
  (cb:P.cellsOf tb=1)(ci:P.cellsOf ti=1)(cs:P.cellsOf ts=1)(c2:P.cellsOf t2=2)(c6:P.cellsOf t6=6)(ce6:P.cellsOf te6=6)(ce:P.cellsOf te=c)(hc0:0<c)(hq:∀k vs y,vs.length=c→DataW.trod enc P w base sp held k te vs=some y→Q vs)
  (hsz:cs'.size=18)(hd:DataW.Trod enc P w base sp held t (.agg cs') d ps):
  ∃(k:Cel) (p:Nat→Option Addr) (n cap:Nat→Nat),cs'=(Ycs k fun i=>.slice (p i) (n i) (cap i)).toArray∧∀i,i<6→n i≤maxLen∧Yf4 w Q c (p i) (n i):=by
 obtain⟨fuel,hf⟩:=hd;obtain⟨xs,k,hk,hxy,_,hxl,hfs⟩:=DataW.trod_struct ht hf;obtain⟨l⟩:=cs'
 match l,hsz,xs,hxl with
 |[u0,u1,u2,u3,u4,u5,u6,u7,u8,u9,u10,u11,u12,u13,u14,u15,u16,u17],_,[y0,y1,y2,y3,y4,y5,y6],_=>
  have g0:=hfs 0 f0 rfl;have g1:=hfs 1 f1 rfl;have g2:=hfs 2 f2 rfl;have g3:=hfs 3 f3 rfl;have g4:=hfs 4 f4 rfl;have g5:=hfs 5 f5 rfl;have g6:=hfs 6 f6 rfl;rw[e.1,o.1,ci] at g0;rw[e.2.1,o.2.1,cb] at g1;rw[e.2.2.1,o.2.2.1,ci] at g2;rw[e.2.2.2.1,o.2.2.2.1,ci] at g3;rw[e.2.2.2.2.1,o.2.2.2.2.1,c2] at g4;rw[e.2.2.2.2.2.1,o.2.2.2.2.2.1,c6] at g5;rw[e.2.2.2.2.2.2,o.2.2.2.2.2.2,ce6] at g6
  obtain⟨x0,rfl,_⟩:=Yeg hi (show DataW.trod _ P w base sp held k ti [u0]=some y0 from g0);obtain⟨x1,q1,_⟩:=DataW.trod_bool hb (show DataW.trod _ P w base sp held k tb [u1]=some y1 from g1);injection q1 with q1;subst q1;obtain⟨x2,rfl,_⟩:=Yeg hi (show DataW.trod _ P w base sp held k ti [u2]=some y2 from g2);obtain⟨x3,rfl,_⟩:=Yeg hi (show DataW.trod _ P w base sp held k ti [u3]=some y3 from g3)
  obtain⟨x4,x5,rfl,rfl,_,_⟩:=Yk0 h2 hi ci (show DataW.trod _ P w base sp held k t2 [u4,u5]=some y4 from g4);obtain⟨m,z0,z1,z2,z3,z4,z5,a0,a1,a2,a3,a4,a5⟩:=Ygm h6 ci (show DataW.trod _ P w base sp held k t6 [u6,u7,u8,u9,u10,u11]=some y5 from g5);obtain⟨d0,rfl,_⟩:=Yeg hi a0;obtain⟨d1,rfl,_⟩:=Yeg hi a1;obtain⟨d2,rfl,_⟩:=Yeg hi a2;obtain⟨d3,rfl,_⟩:=Yeg hi a3;obtain⟨d4,rfl,_⟩:=Yeg hi a4
  obtain⟨d5,rfl,_⟩:=Yeg hi a5;obtain⟨m',z0',z1',z2',z3',z4',z5',b0,b1,b2,b3,b4,b5⟩:=Ygm he6 cs (show DataW.trod _ P w base sp held k te6 [u12,u13,u14,u15,u16,u17]=some y6 from g6);obtain⟨p0,n0,k0,rfl,l0,r0⟩:=Ydt c Q hs ce hc0 hq b0;obtain⟨p1,n1,k1,rfl,l1,r1⟩:=Ydt c Q hs ce hc0 hq b1;obtain⟨p2,n2,k2,rfl,l2,r2⟩:=Ydt c Q hs ce hc0 hq b2;obtain⟨p3,n3,k3,rfl,l3,r3⟩:=Ydt c Q hs ce hc0 hq b3
  obtain⟨p4,n4,k4,rfl,l4,r4⟩:=Ydt c Q hs ce hc0 hq b4;obtain⟨p5,n5,k5,rfl,l5,r5⟩:=Ydt c Q hs ce hc0 hq b5;refine⟨⟨x0,x1,x2,x3,x4,x5,six d0 d1 d2 d3 d4 d5,fun _=>[]⟩,six p0 p1 p2 p3 p4 p5,six n0 n1 n2 n3 n4 n5,six k0 k1 k2 k3 k4 k5,rfl,fun i hi=>?_⟩
  match i,hi with
  |0,_=>exact⟨l0,r0⟩
  |1,_=>exact⟨l1,r1⟩
  |2,_=>exact⟨l2,r2⟩
  |3,_=>exact⟨l3,r3⟩
  |4,_=>exact⟨l4,r4⟩
  |5,_=>exact⟨l5,r5⟩
end
theorem Yko {w:World}(k:Cel)(p:Nat→Option Addr)(n c:Nat→Nat)(h:∀i,i<6→n i≤maxLen∧Yf4 w Ye3 3 (p i) (n i)):
  ∃k':Cel,(Ycs k fun i=>.slice (p i) (n i) (c i))=(Ycs k' fun i=>.slice (p i) (n i) (c i))∧∀i,i<6→n i=(k'.ev i).length∧Ydk w (p i) (k'.ev i):=by
 have each:∀i,∃l:List Ev,i<6→l.length=n i∧Ydk w (p i) l:=by
  intro i;by_cases hi:i<6
  ·obtain⟨l,h1,h2,_⟩:=Yr7 (h i hi).2;exact⟨l,fun _=>⟨h1,h2⟩⟩
  ·exact⟨[],fun h=>absurd h hi⟩
 refine⟨{k with ev:=fun i=>(each i).choose},rfl,fun i hi=>?_⟩;have h2:=(each i).choose_spec hi;exact⟨h2.1.symm,h2.2⟩
section
variable {H:Type}{enc:TypeId×Value→H}{P:Program}
end
end Go.Proofs.YtdnjefldijjgdaaGreatDoor