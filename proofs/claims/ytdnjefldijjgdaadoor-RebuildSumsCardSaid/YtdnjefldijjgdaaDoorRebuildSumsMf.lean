/- No condition. -/
import Derived.Test.YtdnjefldijjgdaaDoorRebuildSumsMb
import Derived.Test.YtdnjefldijjgdaaDoorRebuildSumsMc
import Derived.Test.YtdnjefldijjgdaaDoorRebuildSumsMd
import Derived.Test.YtdnjefldijjgdaaDoorRebuildSumsMe
import Derived.WalkMore
import Derived.Test.YtdnjefldijjgdaaDoorChecked
import Derived.Lib.Hide
import Derived.Below
import Derived.WalkKit
import Derived.OwnWalk
import Derived.IntWalk
import Derived.Laws.ResultCell
import Derived.Laws.Rows
import Derived.Laws.OwnMore
import Derived.Deep.AppendLies
import Derived.Maps.AppendAt
import Derived.Deep.Slices
import Derived.Deep.MidRow
import Derived.ChangeKeysEq
import Derived.RegionTactic
namespace Go.Proofs.YtdnjefldijjgdaaDoor
open Go.RowKit Go.Lib Go.ChangeShapes Go.WideShapes Go.ChangeAt
def Yco (run level:Int):Bool:=decide (0≤run)&&decide (run≤63)&&decide (-127≤level)&&decide (level≤127) && !(level==0)
theorem Yc3 {run level:Int}:Yco run level=true↔0≤run∧run≤63∧-127≤level∧level≤127∧level≠0:=by
 unfold Yco;simp[Bool.and_eq_true,and_assoc]
def Yjs (last:Bool)(run level:Int):Obj:=.cells [.bool last,.int .i64 run,.int .i64 level].toArray 103 (0,0)
theorem Yfv (last:Bool)(run level:Int)(w:World):Calls Tryd.prog 66 #[.agg #[.bool last,.int .i64 run,.int .i64 level]] w fun e w'=>e=.returned (.bool (Yco run level))∧Below w.heap.size w w':=by
 have hb:∀o,Below w.heap.size w (w.alloc o):=fun o=>(Below.refl _ w).alloc (Nat.le_refl _) o;have hT:Yco run level=(decide (0≤run)&&decide (run≤63)&&decide (-127≤level)&&decide (level≤127) && !(level==0)):=rfl;have HT:=Lib.hid hT;clear hT;cases g0:decide (0≤run)
 ·go_enter Tryd.func66,Tryd.ntmps66
  go_wp2
  go_ret
  exact⟨Yaf (by rw[HT.out,g0];rfl),hb _⟩
 cases g1:decide (run≤63)
 ·go_enter Tryd.func66,Tryd.ntmps66
  go_wp2
  go_ret
  exact⟨Yaf (by rw[HT.out,g0,g1];rfl),hb _⟩
 cases g2:decide (-127≤level)
 ·go_enter Tryd.func66,Tryd.ntmps66
  go_wp2
  go_ret
  exact⟨Yaf (by rw[HT.out,g0,g1,g2];rfl),hb _⟩
 cases g3:decide (level≤127)
 ·go_enter Tryd.func66,Tryd.ntmps66
  go_wp2
  go_ret
  exact⟨Yaf (by rw[HT.out,g0,g1,g2,g3];rfl),hb _⟩
 cases g4:level==0
 all_goals
  have g5:=Lib.hid (show (level != 0) = !(level==0) from rfl)
  go_enter Tryd.func66,Tryd.ntmps66
  go_wp2
  go_ret
  exact⟨Yaf (by rw[HT.out,g5.out,g0,g1,g2,g3,g4];rfl),hb _⟩
theorem Yec {x:World}{B:Nat}{last:Bool}{r v:Int}(h:x.heap[B]? =some (Yjs last r v)):
  x.cell? ⟨B,0,none⟩=some (.bool last)∧x.cell? ⟨B,1,none⟩=some (.int .i64 r)∧x.cell? ⟨B,2,none⟩=some (.int .i64 v)∧x.frozen? ⟨B,0,none⟩=false∧x.frozen? ⟨B,1,none⟩=false∧x.frozen? ⟨B,2,none⟩=false:=
 ⟨Yad h rfl,Yad h rfl,Yad h rfl,Ybk (o:=0) h,Ybk (o:=1) h,Ybk (o:=2) h⟩
def Yjf (f:Nat→Int):List Value:=(List.range 64).map fun i=>.int .i64 (f i)
theorem Yci (f:Nat→Int):(Yjf f).length=64:=by simp[Yjf]
theorem Yek (f:Nat→Int){i:Nat}(h:i<64):(Yjf f)[i]? =some (.int .i64 (f i)):=by simp[Yjf,h]
theorem Yjg {f g:Nat→Int}(h:∀i,i<64→f i=g i):Yjf f=Yjf g:=by
 unfold Yjf;refine List.map_congr_left fun i hi=>?_;rw[h i (List.mem_range.1 hi)]
theorem Ym6 (f:Nat→Int):∀v∈Yjf f,v.oneCell'=true:=by
 intro v hv;obtain⟨i,_,rfl⟩:=List.mem_map.1 hv
 rfl
def Yb2 (f:Nat→Int)(i:Nat)(v:Int):Nat→Int:=fun k=>if k=i then v else f k
theorem Ym7 (f:Nat→Int){i:Nat}(v:Int):(Yjf f).set i (.int .i64 v)=Yjf (Yb2 f i v):=by
 refine List.ext_getElem? fun k=>?_;rw[List.getElem?_set,Yci];by_cases hk:k<64
 ·by_cases e:i=k
  ·subst e;rw[if_pos rfl,if_pos hk,Yek _ hk];simp[Yb2]
  ·rw[if_neg e,Yek _ hk,Yek _ hk];unfold Yb2;rw[if_neg (fun h=>e h.symm)]
 ·by_cases e:i=k
  ·subst e;rw[if_pos rfl,if_neg hk,List.getElem?_eq_none (by rw[Yci];omega)]
  ·rw[if_neg e,List.getElem?_eq_none (by rw[Yci];omega),List.getElem?_eq_none (by rw[Yci];omega)]
def Yav (f:Nat→Int):Array Value:=(Yjf f).toArray
theorem Yag (f:Nat→Int):(Yav f).size=64:=Yci f
theorem Yh6 (f:Nat→Int){i:Nat}(h:i<64):(Yav f)[i]? =some (.int .i64 (f i)):=by
 unfold Yav;rw[List.getElem?_toArray];exact Yek f h
theorem Ya0 (f:Nat→Int):(Yav f).all (·.oneCell')=true:=by
 rw[Array.all_eq_true_iff_forall_mem];intro v hv;exact Ym6 f v (by simpa [Yav] using hv)
theorem Ydt {f g:Nat→Int}(h:∀i,i<64→f i=g i):Yav f=Yav g:=congrArg List.toArray (Yjg h)
def Yeb (f:Nat→Int):Obj:=.cells (Yav f) 22 (0,0)
def Ym5 (f g:Nat→Int):Bool:=(List.range 64).all fun i=>f i==g i
theorem Yku {f g:Nat→Int}:Ym5 f g=true↔∀i,i<64→f i=g i:=by simp[Ym5]
theorem Ym9:(Tryd.prog.info? 22).map (·.size)=some 64:=by kernel_rfl
theorem Yam (f:Nat→Int):(Tryd.prog.info? 22).map (·.size)=some (Yav f).size:=by rw[Yag];exact Ym9
theorem Yck:∃i,Tryd.prog.info? 3=some i:=by
 cases h:Tryd.prog.info? 3 with
 |some i=>exact⟨i,rfl⟩
 |none=>
  have h2:(Tryd.prog.info? 3).isSome=true:=by kernel_rfl
  rw[h] at h2;cases h2
theorem Ycc:Tryd.prog.cellsOf 3=1:=by kernel_rfl
theorem Ybq:Tryd.prog.plainKey 3=true:=by kernel_rfl
theorem Yik (f:Nat→Int){i:Nat}(h:i<64)(w:World):(part 3 (Yav f) i).run Tryd.prog w=.ok (.int .i64 (f i)) w:=run_part_plain w Ybq (Yh6 f h)
theorem Yel (f:Nat→Int){i:Nat}(h:i<64)(w:World):(Instr.index 22 (.agg (Yav f)) (.int .i64 (i:Int))).run Tryd.prog w=.ok (.int .i64 (f i)) w:=by
 obtain⟨j,hj⟩:=Yck;have h1:(0:Int)≤(i:Int)∧(i:Int)<((64:Nat):Int):=by omega
 simp only[Instr.index,asIntOf,Sem.run_bind,Sem.run_pure,Result.andThen_ok,run_underlying Tryd.underlying22,if_pos h1,run_sizeOf w hj,Ycc,Nat.mul_one,Int.toNat_natCast];exact Yik f h w
theorem Ygb (d:Nat)(f g:Nat→Int)(w:World):∀is:List Nat,(∀i∈is,i<64)→(Op.eqItems (d+1) 3 (Tryd.prog.cellsOf 3) (Yav f) (Yav g) is).run Tryd.prog w=.ok (is.all fun i=>f i==g i) w
 |[],_=>by simp[Op.eqItems]
 |i::is,h=>by
  have hi:=h i List.mem_cons_self;have p1:=Yik f hi w;have p2:=Yik g hi w;have p3:=run_equalIn_int (P:=Tryd.prog) w d 3 .i64 .i64 (f i) (g i) Tryd.underlying3;have ih:=Ygb d f g w is fun k hk=>h k (List.mem_cons_of_mem _ hk);rw[Ycc] at ih ⊢;simp only[Op.eqItems,Sem.run_bind,Nat.mul_one,p1,p2,p3,Result.andThen_ok,List.all_cons];cases hq:(f i==g i) with
  |false=>simp
  |true=>simpa using ih
theorem Ykw (f g:Nat→Int)(w:World):(Op.equalIn 10000 22 (.agg (Yav f)) (.agg (Yav g))).run Tryd.prog w=.ok (Ym5 f g) w:=by
 obtain⟨j,hj⟩:=Yck;have h:=run_equalIn_array (P:=Tryd.prog) w 9999 (Yav f) (Yav g) Tryd.underlying22 hj;exact h.trans (Ygb 9998 f g w (List.range 64) fun i hi=>List.mem_range.1 hi)
theorem Ybp (w:World):(zeroValue 22).run Tryd.prog w=.ok (.agg (Yav fun _=>0)) w:=by
 have h:(Tryd.prog.info? 22).map (fun i=>i.zero)=some (some (.agg (Yav fun _=>0))):=by kernel_rfl
 generalize (Yav fun _=>0)=Z at h ⊢;cases hq:Tryd.prog.info? 22 with
 |none=>simp[hq] at h
 |some i=>
  simp[hq] at h;simp[zeroValue,typeInfo,hq,h]
theorem Yc0 {w:World}{B i:Nat}{f:Nat→Int}(h:w.heap[B]? =some (Yeb f))(hi:i<64):w.cell? ⟨B,i,none⟩=some (.int .i64 (f i)):=by
 rw[cell_of_row w B i _ _ _ h];exact Yh6 f hi
theorem Ydm {w:World}{B i:Nat}{f:Nat→Int}(h:w.heap[B]? =some (Yeb f)):w.frozen? ⟨B,i,none⟩=false:=frozen_of_row w B i _ _ h
theorem Yem {w:World}{B i:Nat}{f:Nat→Int}(v:Int)(h:w.heap[B]? =some (Yeb f)):(w.setCell ⟨B,i,none⟩ (.int .i64 v)).heap[B]? =some (Yeb (Yb2 f i v)):=by
 rw[heap_setCell_same w B i _ _ _ h];unfold Yeb;rw[show (Yav f).setIfInBounds i (.int .i64 v)=Yav (Yb2 f i v) by unfold Yav;rw[List.setIfInBounds_toArray,Ym7]]
theorem Yac {P:Program}{ops:Array Oper}{rest:List Oper}{op:Oper}{a:Act}{w:World}{Q:Exit→Act→World→Prop}(hgd:op.guard=none)(ty:TypeId)(x y:Operand)(ho:op.op=.store ty x y)
  (b:Nat)(Z old:Array Value)(hx:a.eval x=.pointer (some ⟨b,0,none⟩))(hy:a.eval y=.agg Z)(T:TypeId)(hg:w.heap[b]? =some (.cells old T (0,0)))(hi:(P.info? ty).map (·.size)=some Z.size)(hs:old.size=Z.size)(h1:Z.all (·.oneCell')=true)
  (h:∀w',w'.heap[b]? =some (.cells Z T (0,0))→w.grownBy w' (some b)→wpList P ops Q rest (a.put op.dst undef) w'):wpList P ops Q (op::rest) a w:=
 wpList_store_row hgd ty x y ho b Z hx hy T old hg hi hs h1 (h _ (setRow_heap w b old Z T (0,0) hg) ⟨rfl,rfl,rfl,by simp,fun k _ hk=>setRow_other w b k _ (by intro e;exact hk (by rw[e]))⟩)
theorem Yay {P:Program}{ops:Array Oper}{rest:List Oper}{o:Oper}{a:Act}{w:World}{Q:Exit→Act→World→Prop}(hw:Region.wanted o (yielded ops a.tmps)=true)(ty:TypeId)(x:Operand)(ho:o.op=.load ty x)
  (g:Nat)(hx:a.eval x=.pointer (some ⟨g,0,none⟩))(t:TypeId)(cs:Array Value)(fr:Nat×Nat)(d:TypeDesc)(hg:w.heap[g]? =some (.cells cs t fr))
  (hu:P.underlying ty=some d)(hd:(match d with|.struct _|.array _ _=>true|_=>false)=true)(hi:(P.info? ty).map (·.size)=some cs.size)
  (h:wpList P ops Q rest (a.put o.dst (.agg cs)) w):wpList P ops Q (o::rest) a w:=by
 unfold wpList;rw[if_pos hw];exact .inl (wp_load_row ty x ho g hx t cs fr d hg hu hd hi h)
def Yaz (g:Nat→Int)(w:World)(e:Ending)(w':World):Prop:=e=.returned (.agg (Yav g))∧Below w.heap.size w w'
theorem Yfj {g h:Nat→Int}{w w':World}{Z:Array Value}(hg:∀i,i<64→h i=g i)(hZ:Yav h=Z)(hb:Below w.heap.size w w'):Yaz g w (.returned (.agg Z)) w':=by
 unfold Yaz;rw[←hZ,Ydt hg];exact⟨rfl,hb⟩
def Ya7 (g:Nat→Int):Nat→(Nat→Int)
 |0=>fun _=>0
 |k+1=>Yb2 (Ya7 g k) k (g k)
theorem Ydy (g:Nat→Int):∀k p,Ya7 g k p=if p<k then g p else 0
 |0,p=>rfl
 |k+1,p=>by
  unfold Ya7 Yb2;by_cases e:p=k
  ·subst e;rw[if_pos rfl,if_pos (by omega)]
  ·rw[if_neg e,Ydy g k p];by_cases hlt:p<k
   ·rw[if_pos hlt,if_pos (by omega)]
   ·rw[if_neg hlt,if_neg (by omega)]
theorem Yof (g:Nat→Int):∀p,p<64→Ya7 g 64 p=g p:=by
 intro p hp;rw[Ydy,if_pos hp]
section
variable {H:Type}{enc:TypeId×Value→H}{P:Program}
end
end Go.Proofs.YtdnjefldijjgdaaDoor
namespace Go.Proofs.YtdnjefldijjgdaaDoor
open Go.RowKit
abbrev Ev:=Bool×Int×Int
def lvS (a:Nat)(l:List Ev):Nat×(Nat→Int):=l.foldl (fun s e=>(s.1+e.2.1.toNat+1,Yb2 s.2 (s.1+e.2.1.toNat) e.2.2)) (a,fun _=>0)
theorem Ynz (a:Nat)(l:List Ev)(e:Ev):lvS a (l++[e])=((lvS a l).1+e.2.1.toNat+1,Yb2 (lvS a l).2 ((lvS a l).1+e.2.1.toNat) e.2.2):=by
 unfold lvS;rw[List.foldl_append]
 rfl
theorem Yi2 (a:Nat)(l:List Ev){j:Nat}(h:j<l.length):lvS a (l.take (j+1))=((lvS a (l.take j)).1+l[j].2.1.toNat+1,Yb2 (lvS a (l.take j)).2 ((lvS a (l.take j)).1+l[j].2.1.toNat) l[j].2.2):=by
 rw[List.take_succ_eq_append_getElem h,Ynz]
def Ykq (a:Nat)(l:List Ev)(j:Nat)(e:Ev):Bool:=Yco e.2.1 e.2.2&&(e.1==decide (j+1=l.length))&&decide ((lvS a (l.take j)).1+e.2.1.toNat<64)
def Yf6 (a:Nat)(l:List Ev):Nat→Bool
 |0=>false
 |j+1=>Yf6 a l j || (match l[j]? with|some e=>!Ykq a l j e|none=>false)
theorem Ygw {a:Nat}{l:List Ev}{k:Nat}(h:Yf6 a l k=true):∀d,Yf6 a l (k+d)=true
 |0=>h
 |d+1=>by rw[←Nat.add_assoc,Yf6,Ygw h d];rfl
theorem Ykx {a:Nat}{l:List Ev}{j:Nat}(hj:j<l.length)(h:Ykq a l j l[j]=false):Yf6 a l l.length=true:=by
 have h1:Yf6 a l (j+1)=true:=by
  rw[Yf6,List.getElem?_eq_getElem hj];simp[h]
 have:=Ygw h1 (l.length-(j+1));rwa [show j+1+(l.length-(j+1))=l.length by omega] at this
theorem Yiu {a:Nat}{l:List Ev}:∀k,k≤l.length→(∀j,(h:j<l.length)→j<k→Ykq a l j l[j]=true)→Yf6 a l k=false
 |0,_,_=>rfl
 |k+1,hk,h=>by
  rw[Yf6,Yiu k (by omega) fun j h1 h2=>h j h1 (by omega),List.getElem?_eq_getElem (by omega)];simp[h k (by omega) (by omega)]
theorem Yky {a:Nat}{l:List Ev}(h:Yf6 a l l.length=false){j:Nat}(hj:j<l.length):Ykq a l j l[j]=true:=by
 cases h2:Ykq a l j l[j] with
 |true=>rfl
 |false=>rw[Ykx hj h2] at h;cases h
def lvG (l:List Ev)(a:Int):(Nat→Int)×Int:=if a=0∨a=1 then (if Yf6 a.toNat l l.length then (fun _=>0,7) else ((lvS a.toNat l).2,0)) else (fun _=>0,1)
end Go.Proofs.YtdnjefldijjgdaaDoor
namespace Go.Proofs.YtdnjefldijjgdaaDoor
open Go.RowKit Go.Lib Go.ChangeShapes Go.WideShapes Go.ChangeAt
def Ydi (w:World)(p:Option Addr)(l:List Ev):Prop:=
 l=[]∨∃b o,p=some ⟨b,o,none⟩∧b<w.heap.size∧∀i,(h:i<l.length)→w.cell? ⟨b,o+i*3,none⟩=some (.bool l[i].1)∧w.cell? ⟨b,o+i*3+1,none⟩=some (.int .i64 l[i].2.1)∧w.cell? ⟨b,o+i*3+2,none⟩=some (.int .i64 l[i].2.2)
theorem Ydi.below {w w':World}{p:Option Addr}{l:List Ev}(h:Ydi w p l)(hb:Below w.heap.size w w'):Ydi w' p l:=by
 rcases h with h|⟨b,o,h1,h2,h3⟩
 ·exact .inl h
 ·refine .inr ⟨b,o,h1,Nat.lt_of_lt_of_le h2 hb.size,fun i hi=>?_⟩;rw[hb.cell (p:=⟨b,o+i*3,none⟩) h2,hb.cell (p:=⟨b,o+i*3+1,none⟩) h2,hb.cell (p:=⟨b,o+i*3+2,none⟩) h2];exact h3 i hi
theorem Ydi.at {w:World}{p:Option Addr}{l:List Ev}(h:Ydi w p l)(h0:0<l.length):
  ∃b o,p=some ⟨b,o,none⟩∧b<w.heap.size∧∀i,(h:i<l.length)→w.cell? ⟨b,o+i*3,none⟩=some (.bool l[i].1)∧w.cell? ⟨b,o+i*3+1,none⟩=some (.int .i64 l[i].2.1)∧w.cell? ⟨b,o+i*3+2,none⟩=some (.int .i64 l[i].2.2):=by
 rcases h with rfl|h
 ·cases h0
 ·exact h
section
variable {H:Type}{enc:TypeId×Value→H}{P:Program}
end
end Go.Proofs.YtdnjefldijjgdaaDoor
namespace Go.Proofs.YtdnjefldijjgdaaDoor
open Go.RowKit Go.Lib
structure Cel where
 stuff:Int
 skip:Bool
 kind:Int
 step:Int
 mx:Int
 my:Int
 dc:Nat→Int
 ev:Nat→List Ev
def celZ:Cel:=⟨0,false,0,0,0,0,fun _=>0,fun _=>[]⟩
def Ydg (c:Cel)(sl:Nat→Value):List Value:=
 [.int .i64 c.stuff,.bool c.skip,.int .i64 c.kind,.int .i64 c.step,.int .i64 c.mx,.int .i64 c.my,
  .int .i64 (c.dc 0),.int .i64 (c.dc 1),.int .i64 (c.dc 2),.int .i64 (c.dc 3),.int .i64 (c.dc 4),.int .i64 (c.dc 5),sl 0,sl 1,sl 2,sl 3,sl 4,sl 5]
theorem Yo8 (c:Cel)(sl:Nat→Value):∀i,i<6→(Ydg c sl)[6+i]? =some (.int .i64 (c.dc i))
 |0,_=>rfl
 |1,_=>rfl
 |2,_=>rfl
 |3,_=>rfl
 |4,_=>rfl
 |5,_=>rfl
def Yc8 (w:World)(c:Cel)(p:Nat→Option Addr)(n:Nat→Nat):Prop:=∀i,i<6→n i=(c.ev i).length∧n i≤1048576∧Ydi w (p i) (c.ev i)
theorem Yc8.below {w x:World}{c:Cel}{p:Nat→Option Addr}{n:Nat→Nat}(h:Yc8 w c p n)(hb:Below w.heap.size w x):Yc8 x c p n:=
 fun i hi=>⟨(h i hi).1,(h i hi).2.1,(h i hi).2.2.below hb⟩
end Go.Proofs.YtdnjefldijjgdaaDoor