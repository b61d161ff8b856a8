/- No condition. -/
import Derived.Test.YtnamlooifcpoaaaGreatDoorScreensStillMb
import Derived.Test.YtnamlooifcpoaaaGreatDoorScreensStillMc
import Derived.Test.YtnamlooifcpoaaaGreatDoorScreensStillMe
import Derived.WalkMore
import Derived.Test.YtnamlooifcpoaaaGreatDoorChecked
import Derived.Lib.Hide
import Derived.Below
import Derived.WalkKit
import Derived.OwnWalk
import Derived.IntWalk
import Derived.Laws.ResultCell
import Derived.Laws.Rows
import Derived.Laws.OwnMore
import Derived.Deep.AppendLies
import Derived.Maps.AppendAt
import Derived.ChangeKeysEq
import Derived.RegionTactic
namespace Go.Proofs.YtnamlooifcpoaaaGreatDoor
open Go.RowKit Go.Lib Go.ChangeShapes Go.WideShapes Go.ChangeAt
def Yd8 (run level:Int):Bool:=decide (0≤run)&&decide (run≤63)&&decide (-127≤level)&&decide (level≤127) && !(level==0)
theorem Yes {run level:Int}:Yd8 run level=true↔0≤run∧run≤63∧-127≤level∧level≤127∧level≠0:=by
 unfold Yd8;simp[Bool.and_eq_true,and_assoc]
def Ypz (last:Bool)(run level:Int):Obj:=.cells [.bool last,.int .i64 run,.int .i64 level].toArray 169 (0,0)
theorem Yje (last:Bool)(run level:Int)(w:World):Calls Tryz.prog 161 #[.agg #[.bool last,.int .i64 run,.int .i64 level]] w fun e w'=>e=.returned (.bool (Yd8 run level))∧Below w.heap.size w w':=by
 have hb:∀o,Below w.heap.size w (w.alloc o):=fun o=>(Below.refl _ w).alloc (Nat.le_refl _) o;have hT:Yd8 run level=(decide (0≤run)&&decide (run≤63)&&decide (-127≤level)&&decide (level≤127) && !(level==0)):=rfl;have HT:=Lib.hid hT;clear hT;cases g0:decide (0≤run)
 ·go_enter Tryz.func161,Tryz.ntmps161
  go_wp2
  go_ret
  exact⟨Yae (by rw[HT.out,g0];rfl),hb _⟩
 cases g1:decide (run≤63)
 ·go_enter Tryz.func161,Tryz.ntmps161
  go_wp2
  go_ret
  exact⟨Yae (by rw[HT.out,g0,g1];rfl),hb _⟩
 cases g2:decide (-127≤level)
 ·go_enter Tryz.func161,Tryz.ntmps161
  go_wp2
  go_ret
  exact⟨Yae (by rw[HT.out,g0,g1,g2];rfl),hb _⟩
 cases g3:decide (level≤127)
 ·go_enter Tryz.func161,Tryz.ntmps161
  go_wp2
  go_ret
  exact⟨Yae (by rw[HT.out,g0,g1,g2,g3];rfl),hb _⟩
 cases g4:level==0
 all_goals
  have g5:=Lib.hid (show (level != 0) = !(level==0) from rfl)
  go_enter Tryz.func161,Tryz.ntmps161
  go_wp2
  go_ret
  exact⟨Yae (by rw[HT.out,g5.out,g0,g1,g2,g3,g4];rfl),hb _⟩
theorem Ygy {x:World}{B:Nat}{last:Bool}{r v:Int}(h:x.heap[B]? =some (Ypz last r v)):
  x.cell? ⟨B,0,none⟩=some (.bool last)∧x.cell? ⟨B,1,none⟩=some (.int .i64 r)∧x.cell? ⟨B,2,none⟩=some (.int .i64 v)∧x.frozen? ⟨B,0,none⟩=false∧x.frozen? ⟨B,1,none⟩=false∧x.frozen? ⟨B,2,none⟩=false:=
 ⟨Yac h rfl,Yac h rfl,Yac h rfl,Ya9 (o:=0) h,Ya9 (o:=1) h,Ya9 (o:=2) h⟩
def Ypj (f:Nat→Int):List Value:=(List.range 64).map fun i=>.int .i64 (f i)
theorem Yd1 (f:Nat→Int):(Ypj f).length=64:=by simp[Ypj]
theorem Yg9 (f:Nat→Int){i:Nat}(h:i<64):(Ypj f)[i]? =some (.int .i64 (f i)):=by simp[Ypj,h]
theorem Ypk {f g:Nat→Int}(h:∀i,i<64→f i=g i):Ypj f=Ypj g:=by
 unfold Ypj;refine List.map_congr_left fun i hi=>?_;rw[h i (List.mem_range.1 hi)]
theorem Yvj (f:Nat→Int):∀v∈Ypj f,v.oneCell'=true:=by
 intro v hv;obtain⟨i,_,rfl⟩:=List.mem_map.1 hv
 rfl
def Ycw (f:Nat→Int)(i:Nat)(v:Int):Nat→Int:=fun k=>if k=i then v else f k
theorem Yvk (f:Nat→Int){i:Nat}(v:Int):(Ypj f).set i (.int .i64 v)=Ypj (Ycw f i v):=by
 refine List.ext_getElem? fun k=>?_;rw[List.getElem?_set,Yd1];by_cases hk:k<64
 ·by_cases e:i=k
  ·subst e;rw[if_pos rfl,if_pos hk,Yg9 _ hk];simp[Ycw]
  ·rw[if_neg e,Yg9 _ hk,Yg9 _ hk];unfold Ycw;rw[if_neg (fun h=>e h.symm)]
 ·by_cases e:i=k
  ·subst e;rw[if_pos rfl,if_neg hk,List.getElem?_eq_none (by rw[Yd1];omega)]
  ·rw[if_neg e,List.getElem?_eq_none (by rw[Yd1];omega),List.getElem?_eq_none (by rw[Yd1];omega)]
def Ya7 (f:Nat→Int):Array Value:=(Ypj f).toArray
theorem Yam (f:Nat→Int):(Ya7 f).size=64:=Yd1 f
theorem Ync (f:Nat→Int){i:Nat}(h:i<64):(Ya7 f)[i]? =some (.int .i64 (f i)):=by
 unfold Ya7;rw[List.getElem?_toArray];exact Yg9 f h
theorem Ybd (f:Nat→Int):(Ya7 f).all (·.oneCell')=true:=by
 rw[Array.all_eq_true_iff_forall_mem];intro v hv;exact Yvj f v (by simpa [Ya7] using hv)
theorem Yf4 {f g:Nat→Int}(h:∀i,i<64→f i=g i):Ya7 f=Ya7 g:=congrArg List.toArray (Ypk h)
def Yf5 (f:Nat→Int):Obj:=.cells (Ya7 f) 60 (0,0)
def Yvi (f g:Nat→Int):Bool:=(List.range 64).all fun i=>f i==g i
theorem Yrw {f g:Nat→Int}:Yvi f g=true↔∀i,i<64→f i=g i:=by simp[Yvi]
theorem Yvl:(Tryz.prog.info? 60).map (·.size)=some 64:=by kernel_rfl
theorem Yau (f:Nat→Int):(Tryz.prog.info? 60).map (·.size)=some (Ya7 f).size:=by rw[Yam];exact Yvl
theorem Yer:∃i,Tryz.prog.info? 3=some i:=by
 cases h:Tryz.prog.info? 3 with
 |some i=>exact⟨i,rfl⟩
 |none=>
  have h2:(Tryz.prog.info? 3).isSome=true:=by kernel_rfl
  rw[h] at h2;cases h2
theorem Ydt:Tryz.prog.cellsOf 3=1:=by kernel_rfl
theorem Ycf:Tryz.prog.plainKey 3=true:=by kernel_rfl
theorem Yns (f:Nat→Int){i:Nat}(h:i<64)(w:World):(part 3 (Ya7 f) i).run Tryz.prog w=.ok (.int .i64 (f i)) w:=run_part_plain w Ycf (Ync f h)
theorem Yha (f:Nat→Int){i:Nat}(h:i<64)(w:World):(Instr.index 60 (.agg (Ya7 f)) (.int .i64 (i:Int))).run Tryz.prog w=.ok (.int .i64 (f i)) w:=by
 obtain⟨j,hj⟩:=Yer;have h1:(0:Int)≤(i:Int)∧(i:Int)<((64:Nat):Int):=by omega
 simp only[Instr.index,asIntOf,Sem.run_bind,Sem.run_pure,Result.andThen_ok,run_underlying Tryz.underlying60,if_pos h1,run_sizeOf w hj,Ydt,Nat.mul_one,Int.toNat_natCast];exact Yns f h w
theorem Yoq (d:Nat)(f g:Nat→Int)(w:World):∀is:List Nat,(∀i∈is,i<64)→(Op.eqItems (d+1) 3 (Tryz.prog.cellsOf 3) (Ya7 f) (Ya7 g) is).run Tryz.prog w=.ok (is.all fun i=>f i==g i) w
 |[],_=>by simp[Op.eqItems]
 |i::is,h=>by
  have hi:=h i List.mem_cons_self;have p1:=Yns f hi w;have p2:=Yns g hi w;have p3:=run_equalIn_int (P:=Tryz.prog) w d 3 .i64 .i64 (f i) (g i) Tryz.underlying3;have ih:=Yoq d f g w is fun k hk=>h k (List.mem_cons_of_mem _ hk);rw[Ydt] at ih ⊢;simp only[Op.eqItems,Sem.run_bind,Nat.mul_one,p1,p2,p3,Result.andThen_ok,List.all_cons];cases hq:(f i==g i) with
  |false=>simp
  |true=>simpa using ih
theorem Yry (f g:Nat→Int)(w:World):(Op.equalIn 10000 60 (.agg (Ya7 f)) (.agg (Ya7 g))).run Tryz.prog w=.ok (Yvi f g) w:=by
 obtain⟨j,hj⟩:=Yer;have h:=run_equalIn_array (P:=Tryz.prog) w 9999 (Ya7 f) (Ya7 g) Tryz.underlying60 hj;exact h.trans (Yoq 9998 f g w (List.range 64) fun i hi=>List.mem_range.1 hi)
theorem Yb5 (w:World):(zeroValue 60).run Tryz.prog w=.ok (.agg (Ya7 fun _=>0)) w:=by
 have h:(Tryz.prog.info? 60).map (fun i=>i.zero)=some (some (.agg (Ya7 fun _=>0))):=by kernel_rfl
 generalize (Ya7 fun _=>0)=Z at h ⊢;cases hq:Tryz.prog.info? 60 with
 |none=>simp[hq] at h
 |some i=>
  simp[hq] at h;simp[zeroValue,typeInfo,hq,h]
theorem Yd2 {w:World}{B i:Nat}{f:Nat→Int}(h:w.heap[B]? =some (Yf5 f))(hi:i<64):w.cell? ⟨B,i,none⟩=some (.int .i64 (f i)):=by
 rw[cell_of_row w B i _ _ _ h];exact Ync f hi
theorem Yfp {w:World}{B i:Nat}{f:Nat→Int}(h:w.heap[B]? =some (Yf5 f)):w.frozen? ⟨B,i,none⟩=false:=frozen_of_row w B i _ _ h
theorem Yhb {w:World}{B i:Nat}{f:Nat→Int}(v:Int)(h:w.heap[B]? =some (Yf5 f)):(w.setCell ⟨B,i,none⟩ (.int .i64 v)).heap[B]? =some (Yf5 (Ycw f i v)):=by
 rw[heap_setCell_same w B i _ _ _ h];unfold Yf5;rw[show (Ya7 f).setIfInBounds i (.int .i64 v)=Ya7 (Ycw f i v) by unfold Ya7;rw[List.setIfInBounds_toArray,Yvk]]
theorem Yad {P:Program}{ops:Array Oper}{rest:List Oper}{op:Oper}{a:Act}{w:World}{Q:Exit→Act→World→Prop}(hgd:op.guard=none)(ty:TypeId)(x y:Operand)(ho:op.op=.store ty x y)
  (b:Nat)(Z old:Array Value)(hx:a.eval x=.pointer (some ⟨b,0,none⟩))(hy:a.eval y=.agg Z)(T:TypeId)(hg:w.heap[b]? =some (.cells old T (0,0)))(hi:(P.info? ty).map (·.size)=some Z.size)(hs:old.size=Z.size)(h1:Z.all (·.oneCell')=true)
  (h:∀w',w'.heap[b]? =some (.cells Z T (0,0))→w.grownBy w' (some b)→wpList P ops Q rest (a.put op.dst undef) w'):wpList P ops Q (op::rest) a w:=
 wpList_store_row hgd ty x y ho b Z hx hy T old hg hi hs h1 (h _ (setRow_heap w b old Z T (0,0) hg) ⟨rfl,rfl,rfl,by simp,fun k _ hk=>setRow_other w b k _ (by intro e;exact hk (by rw[e]))⟩)
theorem Yah {P:Program}{ops:Array Oper}{rest:List Oper}{o:Oper}{a:Act}{w:World}{Q:Exit→Act→World→Prop}(hw:Region.wanted o (yielded ops a.tmps)=true)(ty:TypeId)(x:Operand)(ho:o.op=.load ty x)
  (g:Nat)(hx:a.eval x=.pointer (some ⟨g,0,none⟩))(t:TypeId)(cs:Array Value)(fr:Nat×Nat)(d:TypeDesc)(hg:w.heap[g]? =some (.cells cs t fr))
  (hu:P.underlying ty=some d)(hd:(match d with|.struct _|.array _ _=>true|_=>false)=true)(hi:(P.info? ty).map (·.size)=some cs.size)
  (h:wpList P ops Q rest (a.put o.dst (.agg cs)) w):wpList P ops Q (o::rest) a w:=by
 unfold wpList;rw[if_pos hw];exact .inl (wp_load_row ty x ho g hx t cs fr d hg hu hd hi h)
def Ybg (g:Nat→Int)(w:World)(e:Ending)(w':World):Prop:=e=.returned (.agg (Ya7 g))∧Below w.heap.size w w'
theorem Yiu {g h:Nat→Int}{w w':World}{Z:Array Value}(hg:∀i,i<64→h i=g i)(hZ:Ya7 h=Z)(hb:Below w.heap.size w w'):Ybg g w (.returned (.agg Z)) w':=by
 unfold Ybg;rw[←hZ,Yf4 hg];exact⟨rfl,hb⟩
def Ybn (g:Nat→Int):Nat→(Nat→Int)
 |0=>fun _=>0
 |k+1=>Ycw (Ybn g k) k (g k)
theorem Ygb (g:Nat→Int):∀k p,Ybn g k p=if p<k then g p else 0
 |0,p=>rfl
 |k+1,p=>by
  unfold Ybn Ycw;by_cases e:p=k
  ·subst e;rw[if_pos rfl,if_pos (by omega)]
  ·rw[if_neg e,Ygb g k p];by_cases hlt:p<k
   ·rw[if_pos hlt,if_pos (by omega)]
   ·rw[if_neg hlt,if_neg (by omega)]
theorem Ywr (g:Nat→Int):∀p,p<64→Ybn g 64 p=g p:=by
 intro p hp;rw[Ygb,if_pos hp]
section
variable {H:Type}{enc:TypeId×Value→H}{P:Program}
end
end Go.Proofs.YtnamlooifcpoaaaGreatDoor
namespace Go.Proofs.YtnamlooifcpoaaaGreatDoor
open Go.RowKit
abbrev Ev:=Bool×Int×Int
def evs (f:Nat→Int)(a:Nat):Nat→List Ev×Nat
 |0=>([],0)
 |k+1=>if k<a then evs f a k else if f k=0 then ((evs f a k).1,(evs f a k).2+1) else ((evs f a k).1++[(false,((evs f a k).2:Int),f k)],0)
def lvS (a:Nat)(l:List Ev):Nat×(Nat→Int):=l.foldl (fun s e=>(s.1+e.2.1.toNat+1,Ycw s.2 (s.1+e.2.1.toNat) e.2.2)) (a,fun _=>0)
theorem Ywe (a:Nat)(l:List Ev)(e:Ev):lvS a (l++[e])=((lvS a l).1+e.2.1.toNat+1,Ycw (lvS a l).2 ((lvS a l).1+e.2.1.toNat) e.2.2):=by
 unfold lvS;rw[List.foldl_append]
 rfl
theorem Yo0 (a:Nat)(l:List Ev){j:Nat}(h:j<l.length):lvS a (l.take (j+1))=((lvS a (l.take j)).1+l[j].2.1.toNat+1,Ycw (lvS a (l.take j)).2 ((lvS a (l.take j)).1+l[j].2.1.toNat) l[j].2.2):=by
 rw[List.take_succ_eq_append_getElem h,Ywe]
def Yrj (a:Nat)(l:List Ev)(j:Nat)(e:Ev):Bool:=Yd8 e.2.1 e.2.2&&(e.1==decide (j+1=l.length))&&decide ((lvS a (l.take j)).1+e.2.1.toNat<64)
def Yj3 (a:Nat)(l:List Ev):Nat→Bool
 |0=>false
 |j+1=>Yj3 a l j || (match l[j]? with|some e=>!Yrj a l j e|none=>false)
theorem Ylg {a:Nat}{l:List Ev}{k:Nat}(h:Yj3 a l k=true):∀d,Yj3 a l (k+d)=true
 |0=>h
 |d+1=>by rw[←Nat.add_assoc,Yj3,Ylg h d];rfl
theorem Yrz {a:Nat}{l:List Ev}{j:Nat}(hj:j<l.length)(h:Yrj a l j l[j]=false):Yj3 a l l.length=true:=by
 have h1:Yj3 a l (j+1)=true:=by
  rw[Yj3,List.getElem?_eq_getElem hj];simp[h]
 have:=Ylg h1 (l.length-(j+1));rwa [show j+1+(l.length-(j+1))=l.length by omega] at this
theorem Yok {a:Nat}{l:List Ev}:∀k,k≤l.length→(∀j,(h:j<l.length)→j<k→Yrj a l j l[j]=true)→Yj3 a l k=false
 |0,_,_=>rfl
 |k+1,hk,h=>by
  rw[Yj3,Yok k (by omega) fun j h1 h2=>h j h1 (by omega),List.getElem?_eq_getElem (by omega)];simp[h k (by omega) (by omega)]
theorem Yr0 {a:Nat}{l:List Ev}(h:Yj3 a l l.length=false){j:Nat}(hj:j<l.length):Yrj a l j l[j]=true:=by
 cases h2:Yrj a l j l[j] with
 |true=>rfl
 |false=>rw[Yrz hj h2] at h;cases h
def lvG (l:List Ev)(a:Int):(Nat→Int)×Int:=if a=0∨a=1 then (if Yj3 a.toNat l l.length then (fun _=>0,7) else ((lvS a.toNat l).2,0)) else (fun _=>0,1)
end Go.Proofs.YtnamlooifcpoaaaGreatDoor
namespace Go.Proofs.YtnamlooifcpoaaaGreatDoor
open Go.RowKit Go.Lib Go.ChangeShapes Go.WideShapes Go.ChangeAt
def Yex (w:World)(p:Option Addr)(l:List Ev):Prop:=
 l=[]∨∃b o,p=some ⟨b,o,none⟩∧b<w.heap.size∧∀i,(h:i<l.length)→w.cell? ⟨b,o+i*3,none⟩=some (.bool l[i].1)∧w.cell? ⟨b,o+i*3+1,none⟩=some (.int .i64 l[i].2.1)∧w.cell? ⟨b,o+i*3+2,none⟩=some (.int .i64 l[i].2.2)
theorem Yex.below {w w':World}{p:Option Addr}{l:List Ev}(h:Yex w p l)(hb:Below w.heap.size w w'):Yex w' p l:=by
 rcases h with h|⟨b,o,h1,h2,h3⟩
 ·exact .inl h
 ·refine .inr ⟨b,o,h1,Nat.lt_of_lt_of_le h2 hb.size,fun i hi=>?_⟩;rw[hb.cell (p:=⟨b,o+i*3,none⟩) h2,hb.cell (p:=⟨b,o+i*3+1,none⟩) h2,hb.cell (p:=⟨b,o+i*3+2,none⟩) h2];exact h3 i hi
theorem Yex.at {w:World}{p:Option Addr}{l:List Ev}(h:Yex w p l)(h0:0<l.length):
  ∃b o,p=some ⟨b,o,none⟩∧b<w.heap.size∧∀i,(h:i<l.length)→w.cell? ⟨b,o+i*3,none⟩=some (.bool l[i].1)∧w.cell? ⟨b,o+i*3+1,none⟩=some (.int .i64 l[i].2.1)∧w.cell? ⟨b,o+i*3+2,none⟩=some (.int .i64 l[i].2.2):=by
 rcases h with rfl|h
 ·cases h0
 ·exact h
section
variable {H:Type}{enc:TypeId×Value→H}{P:Program}
end
end Go.Proofs.YtnamlooifcpoaaaGreatDoor
namespace Go.Proofs.YtnamlooifcpoaaaGreatDoor
open Go.RowKit Go.Lib
structure Cel where
 stuff:Int
 skip:Bool
 kind:Int
 step:Int
 mx:Int
 my:Int
 dc:Nat→Int
 ev:Nat→List Ev
def Yzv:Cel:=⟨0,false,0,0,0,0,fun _=>0,fun _=>[]⟩
def Ybp (c:Cel)(sl:Nat→Value):List Value:=
 [.int .i64 c.stuff,.bool c.skip,.int .i64 c.kind,.int .i64 c.step,.int .i64 c.mx,.int .i64 c.my,
  .int .i64 (c.dc 0),.int .i64 (c.dc 1),.int .i64 (c.dc 2),.int .i64 (c.dc 3),.int .i64 (c.dc 4),.int .i64 (c.dc 5),sl 0,sl 1,sl 2,sl 3,sl 4,sl 5]
def Yhl:Nat→Value:=fun _=>.slice none 0 0
theorem Yyg (c:Cel)(sl:Nat→Value):∀i,i<6→(Ybp c sl)[6+i]? =some (.int .i64 (c.dc i))
 |0,_=>rfl
 |1,_=>rfl
 |2,_=>rfl
 |3,_=>rfl
 |4,_=>rfl
 |5,_=>rfl
def Yeb (w:World)(c:Cel)(p:Nat→Option Addr)(n:Nat→Nat):Prop:=∀i,i<6→n i=(c.ev i).length∧n i≤1048576∧Yex w (p i) (c.ev i)
theorem Yeb.below {w x:World}{c:Cel}{p:Nat→Option Addr}{n:Nat→Nat}(h:Yeb w c p n)(hb:Below w.heap.size w x):Yeb x c p n:=
 fun i hi=>⟨(h i hi).1,(h i hi).2.1,(h i hi).2.2.below hb⟩
end Go.Proofs.YtnamlooifcpoaaaGreatDoor