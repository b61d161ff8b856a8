/- No condition. -/
import Derived.Test.YtnamlooifcpoaaaGreatDoorScreensNextMb
import Derived.Test.YtnamlooifcpoaaaGreatDoorScreensNextMc
import Derived.Test.YtnamlooifcpoaaaGreatDoorScreensNextMe
import Derived.WalkMore
import Derived.Test.YtnamlooifcpoaaaGreatDoorChecked
import Derived.Lib.Hide
import Derived.Below
import Derived.WalkKit
import Derived.OwnWalk
import Derived.IntWalk
import Derived.Laws.ResultCell
import Derived.Laws.Rows
import Derived.Laws.OwnMore
import Derived.Deep.AppendLies
import Derived.Maps.AppendAt
import Derived.ChangeKeysEq
import Derived.RegionTactic
namespace Go.Proofs.YtnamlooifcpoaaaGreatDoor
open Go.RowKit Go.Lib Go.ChangeShapes Go.WideShapes Go.ChangeAt
def Yd1 (run level:Int):Bool:=decide (0≤run)&&decide (run≤63)&&decide (-127≤level)&&decide (level≤127) && !(level==0)
theorem Yfb {run level:Int}:Yd1 run level=true↔0≤run∧run≤63∧-127≤level∧level≤127∧level≠0:=by
 unfold Yd1;simp[Bool.and_eq_true,and_assoc]
def Ytd (last:Bool)(run level:Int):Obj:=.cells [.bool last,.int .i64 run,.int .i64 level].toArray 169 (0,0)
theorem Ylk (last:Bool)(run level:Int)(w:World):Calls Tryz.prog 161 #[.agg #[.bool last,.int .i64 run,.int .i64 level]] w fun e w'=>e=.returned (.bool (Yd1 run level))∧Below w.heap.size w w':=by
 have hb:∀o,Below w.heap.size w (w.alloc o):=fun o=>(Below.refl _ w).alloc (Nat.le_refl _) o;have hT:Yd1 run level=(decide (0≤run)&&decide (run≤63)&&decide (-127≤level)&&decide (level≤127) && !(level==0)):=rfl;have HT:=Lib.hid hT;clear hT;cases g0:decide (0≤run)
 ·go_enter Tryz.func161,Tryz.ntmps161
  go_wp2
  go_ret
  exact⟨Yad (by rw[HT.out,g0];rfl),hb _⟩
 cases g1:decide (run≤63)
 ·go_enter Tryz.func161,Tryz.ntmps161
  go_wp2
  go_ret
  exact⟨Yad (by rw[HT.out,g0,g1];rfl),hb _⟩
 cases g2:decide (-127≤level)
 ·go_enter Tryz.func161,Tryz.ntmps161
  go_wp2
  go_ret
  exact⟨Yad (by rw[HT.out,g0,g1,g2];rfl),hb _⟩
 cases g3:decide (level≤127)
 ·go_enter Tryz.func161,Tryz.ntmps161
  go_wp2
  go_ret
  exact⟨Yad (by rw[HT.out,g0,g1,g2,g3];rfl),hb _⟩
 cases g4:level==0
 all_goals
  have g5:=Lib.hid (show (level != 0) = !(level==0) from rfl)
  go_enter Tryz.func161,Tryz.ntmps161
  go_wp2
  go_ret
  exact⟨Yad (by rw[HT.out,g5.out,g0,g1,g2,g3,g4];rfl),hb _⟩
theorem Yqn (last:Bool)(run level:Int)(w:World):Calls Tryz.prog 135 #[.agg #[.bool last,.int .i64 run,.int .i64 level]] w fun e w'=>e=.returned (.bool (Yd1 run level))∧Below w.heap.size w w':=by
 have hb:∀o,Below w.heap.size w (w.alloc o):=fun o=>(Below.refl _ w).alloc (Nat.le_refl _) o;have hT:Yd1 run level=(decide (0≤run)&&decide (run≤63)&&decide (-127≤level)&&decide (level≤127) && !(level==0)):=rfl;have HT:=Lib.hid hT;clear hT;cases g0:decide (0≤run)
 ·go_enter Tryz.func135,Tryz.ntmps135
  go_wp2
  go_ret
  exact⟨Yad (by rw[HT.out,g0];rfl),hb _⟩
 cases g1:decide (run≤63)
 ·go_enter Tryz.func135,Tryz.ntmps135
  go_wp2
  go_ret
  exact⟨Yad (by rw[HT.out,g0,g1];rfl),hb _⟩
 cases g2:decide (-127≤level)
 ·go_enter Tryz.func135,Tryz.ntmps135
  go_wp2
  go_ret
  exact⟨Yad (by rw[HT.out,g0,g1,g2];rfl),hb _⟩
 cases g3:decide (level≤127)
 ·go_enter Tryz.func135,Tryz.ntmps135
  go_wp2
  go_ret
  exact⟨Yad (by rw[HT.out,g0,g1,g2,g3];rfl),hb _⟩
 cases g4:level==0
 all_goals
  have g5:=Lib.hid (show (level != 0) = !(level==0) from rfl)
  go_enter Tryz.func135,Tryz.ntmps135
  go_wp2
  go_ret
  exact⟨Yad (by rw[HT.out,g5.out,g0,g1,g2,g3,g4];rfl),hb _⟩
theorem Yix {x:World}{B:Nat}{last:Bool}{r v:Int}(h:x.heap[B]? =some (Ytd last r v)):
  x.cell? ⟨B,0,none⟩=some (.bool last)∧x.cell? ⟨B,1,none⟩=some (.int .i64 r)∧x.cell? ⟨B,2,none⟩=some (.int .i64 v)∧x.frozen? ⟨B,0,none⟩=false∧x.frozen? ⟨B,1,none⟩=false∧x.frozen? ⟨B,2,none⟩=false:=
 ⟨Yac h rfl,Yac h rfl,Yac h rfl,Ycb (o:=0) h,Ycb (o:=1) h,Ycb (o:=2) h⟩
def Yma (f:Nat→Int):List Value:=(List.range 64).map fun i=>.int .i64 (f i)
theorem Yed (f:Nat→Int):(Yma f).length=64:=by simp[Yma]
theorem Yh0 (f:Nat→Int){i:Nat}(h:i<64):(Yma f)[i]? =some (.int .i64 (f i)):=by simp[Yma,h]
theorem Ysu {f g:Nat→Int}(h:∀i,i<64→f i=g i):Yma f=Yma g:=by
 unfold Yma;refine List.map_congr_left fun i hi=>?_;rw[h i (List.mem_range.1 hi)]
theorem Yy1 (f:Nat→Int):∀v∈Yma f,v.oneCell'=true:=by
 intro v hv;obtain⟨i,_,rfl⟩:=List.mem_map.1 hv
 rfl
def Ycr (f:Nat→Int)(i:Nat)(v:Int):Nat→Int:=fun k=>if k=i then v else f k
theorem Yy2 (f:Nat→Int){i:Nat}(v:Int):(Yma f).set i (.int .i64 v)=Yma (Ycr f i v):=by
 refine List.ext_getElem? fun k=>?_;rw[List.getElem?_set,Yed];by_cases hk:k<64
 ·by_cases e:i=k
  ·subst e;rw[if_pos rfl,if_pos hk,Yh0 _ hk];simp[Ycr]
  ·rw[if_neg e,Yh0 _ hk,Yh0 _ hk];unfold Ycr;rw[if_neg (fun h=>e h.symm)]
 ·by_cases e:i=k
  ·subst e;rw[if_pos rfl,if_neg hk,List.getElem?_eq_none (by rw[Yed];omega)]
  ·rw[if_neg e,List.getElem?_eq_none (by rw[Yed];omega),List.getElem?_eq_none (by rw[Yed];omega)]
def Ybb (f:Nat→Int):Array Value:=(Yma f).toArray
theorem Yak (f:Nat→Int):(Ybb f).size=64:=Yed f
theorem Ypx (f:Nat→Int){i:Nat}(h:i<64):(Ybb f)[i]? =some (.int .i64 (f i)):=by
 unfold Ybb;rw[List.getElem?_toArray];exact Yh0 f h
theorem Ya9 (f:Nat→Int):(Ybb f).all (·.oneCell')=true:=by
 rw[Array.all_eq_true_iff_forall_mem];intro v hv;exact Yy1 f v (by simpa [Ybb] using hv)
theorem Yhz {f g:Nat→Int}(h:∀i,i<64→f i=g i):Ybb f=Ybb g:=congrArg List.toArray (Ysu h)
def Ycv (f:Nat→Int):Obj:=.cells (Ybb f) 60 (0,0)
def Yy0 (f g:Nat→Int):Bool:=(List.range 64).all fun i=>f i==g i
theorem Yvh {f g:Nat→Int}:Yy0 f g=true↔∀i,i<64→f i=g i:=by simp[Yy0]
theorem Yrk:(Tryz.prog.info? 60).map (·.size)=some 64:=by kernel_rfl
theorem Yau (f:Nat→Int):(Tryz.prog.info? 60).map (·.size)=some (Ybb f).size:=by rw[Yak];exact Yrk
theorem Yeu:∃i,Tryz.prog.info? 3=some i:=by
 cases h:Tryz.prog.info? 3 with
 |some i=>exact⟨i,rfl⟩
 |none=>
  have h2:(Tryz.prog.info? 3).isSome=true:=by kernel_rfl
  rw[h] at h2;cases h2
theorem Ycz:Tryz.prog.cellsOf 3=1:=by kernel_rfl
theorem Ycq:Tryz.prog.plainKey 3=true:=by kernel_rfl
theorem Yqc (f:Nat→Int){i:Nat}(h:i<64)(w:World):(part 3 (Ybb f) i).run Tryz.prog w=.ok (.int .i64 (f i)) w:=run_part_plain w Ycq (Ypx f h)
theorem Yjh (f:Nat→Int){i:Nat}(h:i<64)(w:World):(Instr.index 60 (.agg (Ybb f)) (.int .i64 (i:Int))).run Tryz.prog w=.ok (.int .i64 (f i)) w:=by
 obtain⟨j,hj⟩:=Yeu;have h1:(0:Int)≤(i:Int)∧(i:Int)<((64:Nat):Int):=by omega
 simp only[Instr.index,asIntOf,Sem.run_bind,Sem.run_pure,Result.andThen_ok,run_underlying Tryz.underlying60,if_pos h1,run_sizeOf w hj,Ycz,Nat.mul_one,Int.toNat_natCast];exact Yqc f h w
theorem Yrs (d:Nat)(f g:Nat→Int)(w:World):∀is:List Nat,(∀i∈is,i<64)→(Op.eqItems (d+1) 3 (Tryz.prog.cellsOf 3) (Ybb f) (Ybb g) is).run Tryz.prog w=.ok (is.all fun i=>f i==g i) w
 |[],_=>by simp[Op.eqItems]
 |i::is,h=>by
  have hi:=h i List.mem_cons_self;have p1:=Yqc f hi w;have p2:=Yqc g hi w;have p3:=run_equalIn_int (P:=Tryz.prog) w d 3 .i64 .i64 (f i) (g i) Tryz.underlying3;have ih:=Yrs d f g w is fun k hk=>h k (List.mem_cons_of_mem _ hk);rw[Ycz] at ih ⊢;simp only[Op.eqItems,Sem.run_bind,Nat.mul_one,p1,p2,p3,Result.andThen_ok,List.all_cons];cases hq:(f i==g i) with
  |false=>simp
  |true=>simpa using ih
theorem Yvj (f g:Nat→Int)(w:World):(Op.equalIn 10000 60 (.agg (Ybb f)) (.agg (Ybb g))).run Tryz.prog w=.ok (Yy0 f g) w:=by
 obtain⟨j,hj⟩:=Yeu;have h:=run_equalIn_array (P:=Tryz.prog) w 9999 (Ybb f) (Ybb g) Tryz.underlying60 hj;exact h.trans (Yrs 9998 f g w (List.range 64) fun i hi=>List.mem_range.1 hi)
theorem Ybx (w:World):(zeroValue 60).run Tryz.prog w=.ok (.agg (Ybb fun _=>0)) w:=by
 have h:(Tryz.prog.info? 60).map (fun i=>i.zero)=some (some (.agg (Ybb fun _=>0))):=by kernel_rfl
 generalize (Ybb fun _=>0)=Z at h ⊢;cases hq:Tryz.prog.info? 60 with
 |none=>simp[hq] at h
 |some i=>
  simp[hq] at h;simp[zeroValue,typeInfo,hq,h]
theorem Ybj {w:World}{B i:Nat}{f:Nat→Int}(h:w.heap[B]? =some (Ycv f))(hi:i<64):w.cell? ⟨B,i,none⟩=some (.int .i64 (f i)):=by
 rw[cell_of_row w B i _ _ _ h];exact Ypx f hi
theorem Ycs {w:World}{B i:Nat}{f:Nat→Int}(h:w.heap[B]? =some (Ycv f)):w.frozen? ⟨B,i,none⟩=false:=frozen_of_row w B i _ _ h
theorem Ydp {w:World}{B i:Nat}{f:Nat→Int}(v:Int)(h:w.heap[B]? =some (Ycv f)):(w.setCell ⟨B,i,none⟩ (.int .i64 v)).heap[B]? =some (Ycv (Ycr f i v)):=by
 rw[heap_setCell_same w B i _ _ _ h];unfold Ycv;rw[show (Ybb f).setIfInBounds i (.int .i64 v)=Ybb (Ycr f i v) by unfold Ybb;rw[List.setIfInBounds_toArray,Yy2]]
theorem Yae {P:Program}{ops:Array Oper}{rest:List Oper}{op:Oper}{a:Act}{w:World}{Q:Exit→Act→World→Prop}(hgd:op.guard=none)(ty:TypeId)(x y:Operand)(ho:op.op=.store ty x y)
  (b:Nat)(Z old:Array Value)(hx:a.eval x=.pointer (some ⟨b,0,none⟩))(hy:a.eval y=.agg Z)(T:TypeId)(hg:w.heap[b]? =some (.cells old T (0,0)))(hi:(P.info? ty).map (·.size)=some Z.size)(hs:old.size=Z.size)(h1:Z.all (·.oneCell')=true)
  (h:∀w',w'.heap[b]? =some (.cells Z T (0,0))→w.grownBy w' (some b)→wpList P ops Q rest (a.put op.dst undef) w'):wpList P ops Q (op::rest) a w:=
 wpList_store_row hgd ty x y ho b Z hx hy T old hg hi hs h1 (h _ (setRow_heap w b old Z T (0,0) hg) ⟨rfl,rfl,rfl,by simp,fun k _ hk=>setRow_other w b k _ (by intro e;exact hk (by rw[e]))⟩)
theorem Yam {P:Program}{ops:Array Oper}{rest:List Oper}{o:Oper}{a:Act}{w:World}{Q:Exit→Act→World→Prop}(hw:Region.wanted o (yielded ops a.tmps)=true)(ty:TypeId)(x:Operand)(ho:o.op=.load ty x)
  (g:Nat)(hx:a.eval x=.pointer (some ⟨g,0,none⟩))(t:TypeId)(cs:Array Value)(fr:Nat×Nat)(d:TypeDesc)(hg:w.heap[g]? =some (.cells cs t fr))
  (hu:P.underlying ty=some d)(hd:(match d with|.struct _|.array _ _=>true|_=>false)=true)(hi:(P.info? ty).map (·.size)=some cs.size)
  (h:wpList P ops Q rest (a.put o.dst (.agg cs)) w):wpList P ops Q (o::rest) a w:=by
 unfold wpList;rw[if_pos hw];exact .inl (wp_load_row ty x ho g hx t cs fr d hg hu hd hi h)
def Ybq (g:Nat→Int)(w:World)(e:Ending)(w':World):Prop:=e=.returned (.agg (Ybb g))∧Below w.heap.size w w'
theorem Yhf {g h:Nat→Int}{w w':World}{Z:Array Value}(hg:∀i,i<64→h i=g i)(hZ:Ybb h=Z)(hb:Below w.heap.size w w'):Ybq g w (.returned (.agg Z)) w':=by
 unfold Ybq;rw[←hZ,Yhz hg];exact⟨rfl,hb⟩
def Ybo (g:Nat→Int):Nat→(Nat→Int)
 |0=>fun _=>0
 |k+1=>Ycr (Ybo g k) k (g k)
theorem Yh6 (g:Nat→Int):∀k p,Ybo g k p=if p<k then g p else 0
 |0,p=>rfl
 |k+1,p=>by
  unfold Ybo Ycr;by_cases e:p=k
  ·subst e;rw[if_pos rfl,if_pos (by omega)]
  ·rw[if_neg e,Yh6 g k p];by_cases hlt:p<k
   ·rw[if_pos hlt,if_pos (by omega)]
   ·rw[if_neg hlt,if_neg (by omega)]
theorem Y0e (g:Nat→Int):∀p,p<64→Ybo g 64 p=g p:=by
 intro p hp;rw[Yh6,if_pos hp]
section
variable {H:Type}{enc:TypeId×Value→H}{P:Program}
end
end Go.Proofs.YtnamlooifcpoaaaGreatDoor
namespace Go.Proofs.YtnamlooifcpoaaaGreatDoor
open Go.RowKit
abbrev Ev:=Bool×Int×Int
def evs (f:Nat→Int)(a:Nat):Nat→List Ev×Nat
 |0=>([],0)
 |k+1=>if k<a then evs f a k else if f k=0 then ((evs f a k).1,(evs f a k).2+1) else ((evs f a k).1++[(false,((evs f a k).2:Int),f k)],0)
def okl (v:Int):Bool:=decide (-127≤v)&&decide (v≤127)
def bad (f:Nat→Int)(a:Nat):Nat→Bool
 |0=>false
 |k+1=>bad f a k || (decide (a≤k) && !okl (f k))
def lvS (a:Nat)(l:List Ev):Nat×(Nat→Int):=l.foldl (fun s e=>(s.1+e.2.1.toNat+1,Ycr s.2 (s.1+e.2.1.toNat) e.2.2)) (a,fun _=>0)
theorem Yz0 (a:Nat)(l:List Ev)(e:Ev):lvS a (l++[e])=((lvS a l).1+e.2.1.toNat+1,Ycr (lvS a l).2 ((lvS a l).1+e.2.1.toNat) e.2.2):=by
 unfold lvS;rw[List.foldl_append]
 rfl
theorem Yms (a:Nat)(l:List Ev){j:Nat}(h:j<l.length):lvS a (l.take (j+1))=((lvS a (l.take j)).1+l[j].2.1.toNat+1,Ycr (lvS a (l.take j)).2 ((lvS a (l.take j)).1+l[j].2.1.toNat) l[j].2.2):=by
 rw[List.take_succ_eq_append_getElem h,Yz0]
def Yob (a:Nat)(l:List Ev)(j:Nat)(e:Ev):Bool:=Yd1 e.2.1 e.2.2&&(e.1==decide (j+1=l.length))&&decide ((lvS a (l.take j)).1+e.2.1.toNat<64)
def Yin (a:Nat)(l:List Ev):Nat→Bool
 |0=>false
 |j+1=>Yin a l j || (match l[j]? with|some e=>!Yob a l j e|none=>false)
theorem Ynw {a:Nat}{l:List Ev}{k:Nat}(h:Yin a l k=true):∀d,Yin a l (k+d)=true
 |0=>h
 |d+1=>by rw[←Nat.add_assoc,Yin,Ynw h d];rfl
theorem Ypy {a:Nat}{l:List Ev}{j:Nat}(hj:j<l.length)(h:Yob a l j l[j]=false):Yin a l l.length=true:=by
 have h1:Yin a l (j+1)=true:=by
  rw[Yin,List.getElem?_eq_getElem hj];simp[h]
 have:=Ynw h1 (l.length-(j+1));rwa [show j+1+(l.length-(j+1))=l.length by omega] at this
theorem Ymd {a:Nat}{l:List Ev}:∀k,k≤l.length→(∀j,(h:j<l.length)→j<k→Yob a l j l[j]=true)→Yin a l k=false
 |0,_,_=>rfl
 |k+1,hk,h=>by
  rw[Yin,Ymd k (by omega) fun j h1 h2=>h j h1 (by omega),List.getElem?_eq_getElem (by omega)];simp[h k (by omega) (by omega)]
theorem Yvk {a:Nat}{l:List Ev}(h:Yin a l l.length=false){j:Nat}(hj:j<l.length):Yob a l j l[j]=true:=by
 cases h2:Yob a l j l[j] with
 |true=>rfl
 |false=>rw[Ypy hj h2] at h;cases h
def lvG (l:List Ev)(a:Int):(Nat→Int)×Int:=if a=0∨a=1 then (if Yin a.toNat l l.length then (fun _=>0,7) else ((lvS a.toNat l).2,0)) else (fun _=>0,1)
end Go.Proofs.YtnamlooifcpoaaaGreatDoor
namespace Go.Proofs.YtnamlooifcpoaaaGreatDoor
open Go.RowKit Go.Lib Go.ChangeShapes Go.WideShapes Go.ChangeAt
def Yfi (w:World)(p:Option Addr)(l:List Ev):Prop:=
 l=[]∨∃b o,p=some ⟨b,o,none⟩∧b<w.heap.size∧∀i,(h:i<l.length)→w.cell? ⟨b,o+i*3,none⟩=some (.bool l[i].1)∧w.cell? ⟨b,o+i*3+1,none⟩=some (.int .i64 l[i].2.1)∧w.cell? ⟨b,o+i*3+2,none⟩=some (.int .i64 l[i].2.2)
theorem Yfi.below {w w':World}{p:Option Addr}{l:List Ev}(h:Yfi w p l)(hb:Below w.heap.size w w'):Yfi w' p l:=by
 rcases h with h|⟨b,o,h1,h2,h3⟩
 ·exact .inl h
 ·refine .inr ⟨b,o,h1,Nat.lt_of_lt_of_le h2 hb.size,fun i hi=>?_⟩;rw[hb.cell (p:=⟨b,o+i*3,none⟩) h2,hb.cell (p:=⟨b,o+i*3+1,none⟩) h2,hb.cell (p:=⟨b,o+i*3+2,none⟩) h2];exact h3 i hi
theorem Yfi.at {w:World}{p:Option Addr}{l:List Ev}(h:Yfi w p l)(h0:0<l.length):
  ∃b o,p=some ⟨b,o,none⟩∧b<w.heap.size∧∀i,(h:i<l.length)→w.cell? ⟨b,o+i*3,none⟩=some (.bool l[i].1)∧w.cell? ⟨b,o+i*3+1,none⟩=some (.int .i64 l[i].2.1)∧w.cell? ⟨b,o+i*3+2,none⟩=some (.int .i64 l[i].2.2):=by
 rcases h with rfl|h
 ·cases h0
 ·exact h
def Yfh (vs:List Value):Prop:=∃(b:Bool) (x y:Int),vs=[.bool b,.int .i64 x,.int .i64 y]∧(Lit.int .i64 x).wf=true∧(Lit.int .i64 y).wf=true
section
variable {H:Type}{enc:TypeId×Value→H}{P:Program}
theorem Ywb {w:World}{base:Nat}{sp:Nat→Bool}{held:Bool}{e tb ti:TypeId}{f0 f1 f2:Field}
  (he:P.underlying e=some (.struct #[f0,f1,f2]))(hb:P.underlying tb=some .bool)(hi:P.underlying ti=some (.int .i64))(e0:f0.type=tb)(e1:f1.type=ti)(e2:f2.type=ti)(o0:f0.offset=0)(o1:f1.offset=1)(o2:f2.offset=2)(cb:P.cellsOf tb=1)(ci:P.cellsOf ti=1):
  ∀k (vs:List Value) y,vs.length=3→DataW.trod enc P w base sp held k e vs=some y→Yfh vs:=by
 intro k vs y hl h;obtain⟨xs,k,hk,hxy,_,hxl,hfs⟩:=DataW.trod_struct he h
 match xs,hxl,vs,hl with
 |[y0,y1,y2],_,[v0,v1,v2],_=>
  have g0:=hfs 0 f0 rfl;have g1:=hfs 1 f1 rfl;have g2:=hfs 2 f2 rfl;rw[e0,o0,cb] at g0;rw[e1,o1,ci] at g1;rw[e2,o2,ci] at g2;obtain⟨x0,q0,_⟩:=DataW.trod_bool hb (show DataW.trod _ P w base sp held k tb [v0]=some y0 from g0);obtain⟨x1,q1,_,w1⟩:=DataW.trod_int hi (show DataW.trod _ P w base sp held k ti [v1]=some y1 from g1)
  obtain⟨x2,q2,_,w2⟩:=DataW.trod_int hi (show DataW.trod _ P w base sp held k ti [v2]=some y2 from g2);injection q0 with q0;injection q1 with q1;injection q2 with q2;subst q0 q1 q2;exact⟨x0,x1,x2,rfl,w1,w2⟩
end
theorem Yge {W:World}{p:Option Addr}{len:Nat}(h:Yvc W Yfh 3 p len):∃l:List Ev,l.length=len∧Yfi W p l∧∀i,(h:i<l.length)→(Lit.int .i64 l[i].2.1).wf=true∧(Lit.int .i64 l[i].2.2).wf=true:=by
 rcases h with rfl|⟨b,o,hp,hb,hc⟩
 ·exact⟨[],rfl,.inl rfl,fun i h=>by cases h⟩
 ·have each:∀i,∃e:Ev,i<len→(W.cell? ⟨b,o+i*3,none⟩=some (.bool e.1)∧W.cell? ⟨b,o+i*3+1,none⟩=some (.int .i64 e.2.1)∧W.cell? ⟨b,o+i*3+2,none⟩=some (.int .i64 e.2.2))∧(Lit.int .i64 e.2.1).wf=true∧(Lit.int .i64 e.2.2).wf=true:=by
   intro i;by_cases hi:i<len
   ·obtain⟨vs,_,⟨x,y,z,rfl,w1,w2⟩,hv⟩:=hc i hi;exact⟨(x,y,z),fun _=>⟨⟨hv 0 _ rfl,hv 1 _ rfl,hv 2 _ rfl⟩,w1,w2⟩⟩
   ·exact⟨(false,0,0),fun h=>absurd h hi⟩
  refine⟨(List.range len).map fun i=>Classical.choose (each i),by simp,.inr ⟨b,o,hp,hb,fun i hi=>?_⟩,fun i hi=>?_⟩
  ·have hi':i<len:=by simpa using hi
   simp only[List.getElem_map,List.getElem_range];exact(Classical.choose_spec (each i) hi').1
  ·have hi':i<len:=by simpa using hi
   simp only[List.getElem_map,List.getElem_range];exact(Classical.choose_spec (each i) hi').2
end Go.Proofs.YtnamlooifcpoaaaGreatDoor
namespace Go.Proofs.YtnamlooifcpoaaaGreatDoor
open Go.RowKit Go.Lib
structure Cel where
 stuff:Int
 skip:Bool
 kind:Int
 step:Int
 mx:Int
 my:Int
 dc:Nat→Int
 ev:Nat→List Ev
def Y3w:Cel:=⟨0,false,0,0,0,0,fun _=>0,fun _=>[]⟩
def six {α:Type}(a b c d e f:α):Nat→α
 |0=>a
 |1=>b
 |2=>c
 |3=>d
 |4=>e
 |_=>f
def Ycd (c:Cel)(sl:Nat→Value):List Value:=
 [.int .i64 c.stuff,.bool c.skip,.int .i64 c.kind,.int .i64 c.step,.int .i64 c.mx,.int .i64 c.my,
  .int .i64 (c.dc 0),.int .i64 (c.dc 1),.int .i64 (c.dc 2),.int .i64 (c.dc 3),.int .i64 (c.dc 4),.int .i64 (c.dc 5),sl 0,sl 1,sl 2,sl 3,sl 4,sl 5]
def Yp7:Nat→Value:=fun _=>.slice none 0 0
theorem Yeh (c:Cel)(sl:Nat→Value):∀i,i<6→(Ycd c sl)[6+i]? =some (.int .i64 (c.dc i))
 |0,_=>rfl
 |1,_=>rfl
 |2,_=>rfl
 |3,_=>rfl
 |4,_=>rfl
 |5,_=>rfl
theorem Yez (c:Cel)(sl:Nat→Value):∀i,i<6→(Ycd c sl)[12+i]? =some (sl i)
 |0,_=>rfl
 |1,_=>rfl
 |2,_=>rfl
 |3,_=>rfl
 |4,_=>rfl
 |5,_=>rfl
def Yea (w:World)(c:Cel)(p:Nat→Option Addr)(n:Nat→Nat):Prop:=∀i,i<6→n i=(c.ev i).length∧n i≤1048576∧Yfi w (p i) (c.ev i)
theorem Yea.below {w x:World}{c:Cel}{p:Nat→Option Addr}{n:Nat→Nat}(h:Yea w c p n)(hb:Below w.heap.size w x):Yea x c p n:=
 fun i hi=>⟨(h i hi).1,(h i hi).2.1,(h i hi).2.2.below hb⟩
end Go.Proofs.YtnamlooifcpoaaaGreatDoor
namespace Go.Proofs.YtnamlooifcpoaaaGreatDoor
open Go.RowKit Go.Lib Go.ChangeShapes Go.WideShapes Go.ChangeAt
section
variable {H:Type}{enc:TypeId×Value→H}{P:Program}
theorem Yd2 {w:World}{base fuel:Nat}{sp:Nat→Bool}{held:Bool}{t e:TypeId}{v:Value}{x:DataW H×List MemPlace}(c:Nat)(Q:List Value→Prop)
  (ht:P.underlying t=some (.slice e))(ce:P.cellsOf e=c)(hc:0<c)(hq:∀k vs y,vs.length=c→DataW.trod enc P w base sp held k e vs=some y→Q vs)
  (hf:DataW.trod enc P w base sp held fuel t [v]=some x):∃p len cap,v=.slice p len cap∧len≤maxLen∧Yvc w Q c p len:=by
 rcases Go.Deep.open_slice ht hf with ⟨h1,_⟩|⟨a',len',cap',m,n,D,Pl,h1,hb,hl,hm,hmm,_,hx⟩
 ·injection h1 with h1;exact⟨none,0,0,h1,Nat.zero_le _,.inl rfl⟩
 ·injection h1 with h1;refine⟨some a',len',cap',h1,by omega,?_⟩;have hlm:len'≤m:=by rw[hmm];split <;> omega
  have each:∀i,i<len'→∃vs:List Value,vs.length=c∧Q vs∧∀(j:Nat) v,vs[j]? =some v→w.cell? (a'.add (i*c+j))=some v:=by
   intro i hil;obtain⟨cs',h1,h2⟩:=hx i (by omega);rw[ce] at h1;obtain⟨_,hlen,hcell⟩:=World.cells?_some h1;refine⟨cs',hlen,hq _ _ _ hlen h2,fun j v hj=>?_⟩;have hjc:j<c:=by rw[←hlen];exact(List.getElem?_eq_some_iff.1 hj).1
   have:=hcell j hjc;rw[Go.Deep.add_add] at this;rw[this,hj]
  by_cases h0:len'=0
  ·exact .inl h0
  ·right
   obtain⟨vs,hl0,_,hv⟩:=each 0 (by omega);have ca:=hv 0 _ (List.getElem?_eq_getElem (by omega));rw[show 0*c+0=0 by omega] at ca;have ca:w.cell? a'=_:=ca;have ea:=Yj9 ca;refine⟨a'.block,a'.off,by rw[←ea],Ymg ca,fun i hil=>?_⟩;obtain⟨vs,h1,h2,h3⟩:=each i hil;refine⟨vs,h1,h2,fun j v hj=>?_⟩;have:=h3 j v hj;rw[ea,Addr.add_mid,←Nat.add_assoc] at this;exact this
end
section
variable {H:Type}{enc:TypeId×Value→H}{P:Program}
theorem Yqb {w:World}{base fuel:Nat}{sp:Nat→Bool}{held:Bool}{t e:TypeId}{c0 c1:Value}{x:DataW H×List MemPlace}
  (ht:P.underlying t=some (.array 2 e))(he:P.underlying e=some (.int .i64))(hce:P.cellsOf e=1)(hf:DataW.trod enc P w base sp held fuel t [c0,c1]=some x):
  ∃a b:Int,c0=.int .i64 a∧c1=.int .i64 b∧(Lit.int .i64 a).wf=true∧(Lit.int .i64 b).wf=true:=by
 obtain⟨xs,m,_,_,_,hl,hel⟩:=DataW.trod_array ht hf;rw[hce] at hel
 match xs,hl with
 |[y0,y1],_=>
  obtain⟨x0,q0,_,w0⟩:=DataW.trod_int he (show DataW.trod _ P w base sp held m e [c0]=some y0 from hel 0 (by omega));obtain⟨x1,q1,_,w1⟩:=DataW.trod_int he (show DataW.trod _ P w base sp held m e [c1]=some y1 from hel 1 (by omega));injection q0 with q0;injection q1 with q1;exact⟨x0,x1,q0,q1,w0,w1⟩
theorem Yjz {w:World}{base fuel:Nat}{sp:Nat→Bool}{held:Bool}{t e:TypeId}{c0 c1 c2 c3 c4 c5:Value}{x:DataW H×List MemPlace}
  (ht:P.underlying t=some (.array 6 e))(hce:P.cellsOf e=1)(hf:DataW.trod enc P w base sp held fuel t [c0,c1,c2,c3,c4,c5]=some x):
  ∃(m:Nat) (y0 y1 y2 y3 y4 y5:DataW H×List MemPlace),DataW.trod enc P w base sp held m e [c0]=some y0∧DataW.trod enc P w base sp held m e [c1]=some y1∧DataW.trod enc P w base sp held m e [c2]=some y2∧DataW.trod enc P w base sp held m e [c3]=some y3∧DataW.trod enc P w base sp held m e [c4]=some y4∧DataW.trod enc P w base sp held m e [c5]=some y5:=by
 obtain⟨xs,m,_,_,_,hl,hel⟩:=DataW.trod_array ht hf;rw[hce] at hel
 match xs,hl with
 |[y0,y1,y2,y3,y4,y5],_=>exact⟨m,y0,y1,y2,y3,y4,y5,hel 0 (by omega),hel 1 (by omega),hel 2 (by omega),hel 3 (by omega),hel 4 (by omega),hel 5 (by omega)⟩
theorem Yd7 {w:World}{base fuel:Nat}{sp:Nat→Bool}{held:Bool}{e:TypeId}{c:Value}{x:DataW H×List MemPlace}(he:P.underlying e=some (.int .i64))(hf:DataW.trod enc P w base sp held fuel e [c]=some x):
  ∃a:Int,c=.int .i64 a∧(Lit.int .i64 a).wf=true:=by
 obtain⟨a,q,_,h⟩:=DataW.trod_int he hf;injection q with q;exact⟨a,q,h⟩
end
end Go.Proofs.YtnamlooifcpoaaaGreatDoor