/- No condition. -/
import Derived.Test.YtkgabfmjfhljdaaDoorResidueLevelsMa
import Derived.Test.YtkgabfmjfhljdaaDoorResidueLevelsMf
import Derived.Test.YtkgabfmjfhljdaaDoorResidueLevelsMg
import Derived.Test.YtkgabfmjfhljdaaDoorResidueLevelsMh
import Derived.Deep.WholeRow
import Derived.RegionTactic
namespace Go.Proofs.YtkgabfmjfhljdaaDoor
open Go.RowKit Go.Lib Go.ChangeShapes Go.WideShapes Go.ChangeAt
def arn (n:Nat)(f:Nat→Int):Array Value:=((List.range n).map fun i=>.int .i64 (f i)).toArray
theorem Yak (n:Nat)(f:Nat→Int):(arn n f).size=n:=by simp[arn]
theorem Ygv {n:Nat}(f:Nat→Int){i:Nat}(h:i<n):(arn n f)[i]? =some (.int .i64 (f i)):=by simp[arn,h]
theorem Ya6 (n:Nat)(f:Nat→Int):(arn n f).all (·.oneCell')=true:=by
 rw[Array.all_eq_true_iff_forall_mem];intro v hv;obtain⟨i,_,rfl⟩:=List.mem_map.1 (by simpa [arn] using hv:v∈(List.range n).map fun i=>Value.int .i64 (f i))
 rfl
theorem Yb4 {n:Nat}{f g:Nat→Int}(h:∀i,i<n→f i=g i):arn n f=arn n g:=by
 unfold arn
 congr 1
 refine List.map_congr_left fun i hi=>?_;rw[h i (List.mem_range.1 hi)]
theorem Yn8 {n:Nat}(f:Nat→Int)(i:Nat)(v:Int):(arn n f).setIfInBounds i (.int .i64 v)=arn n (Ybn f i v):=by
 apply Array.ext';refine List.ext_getElem? fun k=>?_;by_cases e:i=k
 ·subst e;by_cases hk:i<n <;> simp[arn,Ybn,hk]
 ·by_cases hk:k<n
  ·have hne:¬ k=i:=fun h=>e h.symm;simp[arn,Ybn,hk,e,hne]
  ·simp[arn,hk]
section
variable {P:Program}{T E:TypeId}{n:Nat}
theorem Yer (h:(P.info? T).map (·.size)=some n)(f:Nat→Int):(P.info? T).map (·.size)=some (arn n f).size:=by rw[Yak];exact h
theorem Ygw {I:TypeInfo}(hT:P.underlying T=some (.array n E))(hI:P.info? E=some I)(hc:P.cellsOf E=1)(hp:P.plainKey E=true)(f:Nat→Int){i:Nat}(h:i<n)(w:World):(Instr.index T (.agg (arn n f)) (.int .i64 (i:Int))).run P w=.ok (.int .i64 (f i)) w:=by
 have h1:(0:Int)≤(i:Int)∧(i:Int)<((n:Nat):Int):=by omega
 simp only[Instr.index,asIntOf,Sem.run_bind,Sem.run_pure,Result.andThen_ok,run_underlying hT,if_pos h1,run_sizeOf w hI,hc,Nat.mul_one,Int.toNat_natCast];exact run_part_plain w hp (Ygv f h)
theorem Yf2 (h:(P.info? T).map (fun i=>i.zero)=some (some (.agg (arn n fun _=>0))))(w:World):(zeroValue T).run P w=.ok (.agg (arn n fun _=>0)) w:=by
 generalize (arn n fun _=>0)=Z at h ⊢;cases hq:P.info? T with
 |none=>simp[hq] at h
 |some i=>
  simp[hq] at h;simp[zeroValue,typeInfo,hq,h]
end
def Ycb (T:TypeId)(n:Nat)(f:Nat→Int):Obj:=.cells (arn n f) T (0,0)
theorem Ybv {w:World}{B i n:Nat}{T:TypeId}{f:Nat→Int}(h:w.heap[B]? =some (Ycb T n f))(hi:i<n):w.cell? ⟨B,i,none⟩=some (.int .i64 (f i)):=by
 rw[cell_of_row w B i _ _ _ h];exact Ygv f hi
theorem Yej {w:World}{B i n:Nat}{T:TypeId}{f:Nat→Int}(h:w.heap[B]? =some (Ycb T n f)):w.frozen? ⟨B,i,none⟩=false:=frozen_of_row w B i _ _ h
theorem Yf1 {w:World}{B i n:Nat}{T:TypeId}{f:Nat→Int}(v:Int)(h:w.heap[B]? =some (Ycb T n f)):(w.setCell ⟨B,i,none⟩ (.int .i64 v)).heap[B]? =some (Ycb T n (Ybn f i v)):=by
 rw[heap_setCell_same w B i _ _ _ h];unfold Ycb;rw[Yn8]
def Ybi (n:Nat)(g:Nat→Int)(w:World)(e:Ending)(w':World):Prop:=e=.returned (.agg (arn n g))∧Below w.heap.size w w'
theorem Ydn {n:Nat}{g h:Nat→Int}{w w':World}{Z:Array Value}(hg:∀i,i<n→h i=g i)(hZ:arn n h=Z)(hb:Below w.heap.size w w'):Ybi n g w (.returned (.agg Z)) w':=by
 unfold Ybi;rw[←hZ,Yb4 hg];exact⟨rfl,hb⟩
theorem Ye6 (n:Nat)(g:Nat→Int):∀p,p<n→Ydw g n p=g p:=by
 intro p hp;rw[Yid,if_pos hp]
theorem Ylu (g:Nat→Int)(u:Nat):∀p,Ybn (Ydw g u) u 0 p=Ydw g u p:=by
 intro p;unfold Ybn;by_cases e:p=u
 ·subst e;rw[if_pos rfl,Yid,if_neg (by omega)]
 ·rw[if_neg e]
theorem Yj3 (f:Nat→Int)(i:Nat)(x y:Int):Ybn (Ybn f i x) i y=Ybn f i y:=by
 funext p
 unfold Ybn;by_cases e:p=i
 ·rw[if_pos e,if_pos e]
 ·rw[if_neg e,if_neg e,if_neg e]
theorem Yo0 (f:Nat→Int)(i:Nat)(x:Int):Ybn f i x i=x:=by
 unfold Ybn;rw[if_pos rfl]
theorem Yao {P:Program}{ops:Array Oper}{rest:List Oper}{op:Oper}{a:Act}{w:World}{Q:Exit→Act→World→Prop}(hgd:op.guard=none)(ty:TypeId)(x y:Operand)(ho:op.op=.store ty x y)
  (Z old:Array Value)(T:TypeId)(hx:a.eval x=.pointer (some ⟨w.heap.size,0,none⟩))(hy:a.eval y=.agg Z)(hi:(P.info? ty).map (·.size)=some Z.size)(hs:old.size=Z.size)(h1:Z.all (·.oneCell')=true)
  (h:wpList P ops Q rest (a.put op.dst undef) (w.alloc (.cells Z T (0,0)))):wpList P ops Q (op::rest) a (w.alloc (.cells old T (0,0))):=by
 refine wpList_store_row hgd ty x y ho w.heap.size Z hx hy T old (heap_alloc_last w _) hi hs h1 ?_;rw[World.setRow_alloc_new];exact h
theorem Yef (w:World)(o1 o2:Obj):∃(B:Nat) (wA wB:World),w.heap.size=B∧w.alloc o1=wA∧wA.alloc o2=wB∧wA.heap.size=B+1∧wB.heap.size=B+2∧wB.heap[B]? =some o1∧wB.heap[B+1]? =some o2∧Below B w wB:=
 ⟨_,_,_,rfl,rfl,rfl,by simp,by simp,Yai (heap_alloc_new w _),by simpa using heap_alloc_new (w.alloc o1) o2,((Below.refl _ w).alloc (Nat.le_refl _) _).alloc (by simp) _⟩
theorem Yor (w:World)(o1 o2 o3:Obj):∃(B:Nat) (wA wB wC:World),w.heap.size=B∧w.alloc o1=wA∧wA.alloc o2=wB∧wB.alloc o3=wC∧wA.heap.size=B+1∧wB.heap.size=B+2∧wC.heap.size=B+3∧wC.heap[B]? =some o1∧wC.heap[B+1]? =some o2∧wC.heap[B+2]? =some o3∧Below B w wC:=
 ⟨_,_,_,_,rfl,rfl,rfl,rfl,by simp,by simp,by simp,Yai (Yai (heap_alloc_new w _)),Yai (by simpa using heap_alloc_new (w.alloc o1) o2),by simpa using heap_alloc_new ((w.alloc o1).alloc o2) o3,(((Below.refl _ w).alloc (Nat.le_refl _) _).alloc (by simp) _).alloc (by simp;omega) _⟩
end Go.Proofs.YtkgabfmjfhljdaaDoor
namespace Go.Proofs.YtkgabfmjfhljdaaDoor
open Go.RowKit Go.Lib
theorem Yge:(Tryd.prog.info? 32).map (·.size)=some 384:=by kernel_rfl
theorem Ybf (g:Nat→Int):(Tryd.prog.info? 32).map (·.size)=some (arn 384 g).size:=Yer Yge g
theorem Yc1:∀w,(zeroValue 32).run Tryd.prog w=.ok (.agg (arn 384 fun _=>0)) w:=Yf2 (by kernel_rfl)
theorem Yje:Tryd.prog.cellsOf 30=64:=by kernel_rfl
theorem Yiq:∃i,Tryd.prog.info? 30=some i∧i.size=64:=by
 have h:(Tryd.prog.info? 30).map (·.size)=some 64:=by kernel_rfl
 cases hq:Tryd.prog.info? 30 with
 |none=>simp[hq] at h
 |some i=>exact⟨i,rfl,by simpa [hq] using h⟩
theorem Yjx (f:Nat→Int){i:Nat}(h:i<6):(arn 384 f).extract (i*64) (i*64+64)=Yaz fun j=>f (i*64+j):=by
 apply Array.ext_getElem?;intro q;rw[Array.getElem?_extract,Yak];by_cases hq:q<64
 ·rw[if_pos (by omega),Ygv f (show i*64+q<384 by omega),Yhy _ hq]
 ·rw[if_neg (by omega),Array.getElem?_eq_none (by rw[Yag];omega)]
theorem Yhl (A:Array Value)(o:Nat)(w:World):(part 30 A o).run Tryd.prog w=.ok (.agg (A.extract o (o+64))) w:=by
 obtain⟨j,hj,hs⟩:=Yiq;simp[part,isAgg,run_underlying Tryd.underlying30,sizeOf,typeInfo,hj,hs]
theorem Ymi (d:Nat)(g:Nat→Int)(w:World):(Op.equalIn (d+2) 30 (.agg (Yaz g)) (.agg (Yaz g))).run Tryd.prog w=.ok true w:=by
 obtain⟨j,hj⟩:=Yct;have e:((List.range 64).all fun i=>g i==g i)=true:=by simp
 have h:=run_equalIn_array (P:=Tryd.prog) w (d+1) (Yaz g) (Yaz g) Tryd.underlying30 hj;have h2:=Yf8 d g g w (List.range 64) fun i hi=>List.mem_range.1 hi;rw[e] at h2;exact h.trans h2
theorem Yi3 (d:Nat)(A:Array Value)(w:World)(hE:∀g:Nat→Int,(Op.equalIn (d+1) 30 (.agg (Yaz g)) (.agg (Yaz g))).run Tryd.prog w=.ok true w):∀is:List Nat,(∀i∈is,∃g,A.extract (i*64) (i*64+64)=Yaz g)→(Op.eqItems (d+1) 30 64 A A is).run Tryd.prog w=.ok true w
 |[],_=>by simp[Op.eqItems]
 |i::is,h=>by
  obtain⟨g,hg⟩:=h i List.mem_cons_self;have p1:=Yhl A (i*64) w;rw[hg] at p1;have p3:=hE g;have ih:=Yi3 d A w hE is fun k hk=>h k (List.mem_cons_of_mem _ hk);generalize Yaz g=Z at p1 p3;unfold Op.eqItems;rw[Sem.run_bind,p1,Result.andThen_ok,Sem.run_bind,p1,Result.andThen_ok,Sem.run_bind,p3,Result.andThen_ok,if_neg (by simp)];exact ih
theorem Yow (A:Array Value)(h:∀i,i<6→∃g,A.extract (i*64) (i*64+64)=Yaz g)(w:World):(Op.equalIn 10000 32 (.agg A) (.agg A)).run Tryd.prog w=.ok true w:=by
 obtain⟨j,hj,_⟩:=Yiq;have h1:=run_equalIn_array (P:=Tryd.prog) w 9999 A A Tryd.underlying32 hj;have h2:=Yi3 9998 A w (fun g=>Ymi 9997 g w) (List.range 6) fun i hi=>h i (List.mem_range.1 hi);rw[←Yje] at h2;exact h1.trans h2
theorem Ygd (f:Nat→Int)(w:World):(Op.equalIn 10000 32 (.agg (arn 384 f)) (.agg (arn 384 f))).run Tryd.prog w=.ok true w:=Yow (arn 384 f) (fun _ hi=>⟨_,Yjx f hi⟩) w
def Yo9 (g h:Nat→Int)(o:Nat):Nat→Int:=fun s=>if o≤s∧s<o+64 then h (s-o) else g s
theorem Yme (n o:Nat)(g h:Nat→Int)(hfit:o+64≤n):((arn n g).toList.take o++((Yaz h).toList++(arn n g).toList.drop (o+64))).toArray=arn n (Yo9 g h o):=by
 unfold arn Yaz Ygx;refine congrArg List.toArray (List.ext_getElem? fun i=>?_);by_cases h1:i<o
 ·rw[List.getElem?_append_left (by simp;omega),List.getElem?_take_of_lt h1];simp[show i<n by omega,Yo9,show ¬ o≤i by omega]
 ·rw[List.getElem?_append_right (by simp;omega)];by_cases h2:i<o+64
  ·rw[List.getElem?_append_left (by simp;omega)];simp[show i<n by omega,Yo9,show o≤i∧i<o+64 by omega,show min o n=o by omega,show i-o<64 by omega]
  ·rw[List.getElem?_append_right (by simp;omega),List.getElem?_drop];by_cases h3:i<n
   ·simp[h3,Yo9,show ¬ (o≤i∧i<o+64) by omega,show min o n=o by omega,show o+64+(i-o-64)=i by omega]
   ·simp[h3,show min o n=o by omega,show o+64+(i-o-64)=i by omega]
theorem Yho (a b c d:Int)(w:World):(Op.equalIn 10000 22 (.agg #[.int .i64 a,.int .i64 b]) (.agg #[.int .i64 c,.int .i64 d])).run Tryd.prog w=.ok (a==c&&b==d) w:=by
 obtain⟨j,hj⟩:=Yct;have h:=run_equalIn_array (P:=Tryd.prog) w 9999 #[.int .i64 a,.int .i64 b] #[.int .i64 c,.int .i64 d] Tryd.underlying22 hj;refine h.trans ?_;have p1:=run_part_plain (P:=Tryd.prog) w Ybs (show (#[.int .i64 a,.int .i64 b]:Array Value)[0]? =some (.int .i64 a) from rfl)
 have p2:=run_part_plain (P:=Tryd.prog) w Ybs (show (#[.int .i64 a,.int .i64 b]:Array Value)[1]? =some (.int .i64 b) from rfl);have p3:=run_part_plain (P:=Tryd.prog) w Ybs (show (#[.int .i64 c,.int .i64 d]:Array Value)[0]? =some (.int .i64 c) from rfl);have p4:=run_part_plain (P:=Tryd.prog) w Ybs (show (#[.int .i64 c,.int .i64 d]:Array Value)[1]? =some (.int .i64 d) from rfl)
 have q1:=run_equalIn_int (P:=Tryd.prog) w 9998 3 .i64 .i64 a c Tryd.underlying3;have q2:=run_equalIn_int (P:=Tryd.prog) w 9998 3 .i64 .i64 b d Tryd.underlying3;show (Op.eqItems 9999 3 (Tryd.prog.cellsOf 3) _ _ [0,1]).run Tryd.prog w=_;rw[Ycn];simp only[Op.eqItems,Sem.run_bind,Nat.mul_one,p1,p3,q1,Result.andThen_ok];cases hq:(a==c) with
 |false=>simp
 |true=>
  simp only[Bool.not_true,Bool.false_eq_true,if_false,Sem.run_bind,p2,p4,q2,Result.andThen_ok,Bool.true_and];cases hq2:(b==d) <;> simp
theorem Yg4 (n d:Nat)(f g:Nat→Int)(w:World):∀is:List Nat,(∀i∈is,i<n)→(Op.eqItems (d+1) 3 (Tryd.prog.cellsOf 3) (arn n f) (arn n g) is).run Tryd.prog w=.ok (is.all fun i=>f i==g i) w
 |[],_=>by simp[Op.eqItems]
 |i::is,h=>by
  have hi:=h i List.mem_cons_self;have p1:=run_part_plain (P:=Tryd.prog) w Ybs (Ygv f hi);have p2:=run_part_plain (P:=Tryd.prog) w Ybs (Ygv g hi);have p3:=run_equalIn_int (P:=Tryd.prog) w d 3 .i64 .i64 (f i) (g i) Tryd.underlying3;have ih:=Yg4 n d f g w is fun k hk=>h k (List.mem_cons_of_mem _ hk);rw[Ycn] at ih ⊢
  simp only[Op.eqItems,Sem.run_bind,Nat.mul_one,p1,p2,p3,Result.andThen_ok,List.all_cons];cases hq:(f i==g i) with
  |false=>simp
  |true=>simpa using ih
theorem Yl5 (f g:Nat→Int)(w:World):(Op.equalIn 10000 23 (.agg #[.int .i64 (f 0),.int .i64 (f 1),.int .i64 (f 2),.int .i64 (f 3),.int .i64 (f 4),.int .i64 (f 5)]) (.agg #[.int .i64 (g 0),.int .i64 (g 1),.int .i64 (g 2),.int .i64 (g 3),.int .i64 (g 4),.int .i64 (g 5)])).run Tryd.prog w=.ok ((List.range 6).all fun i=>f i==g i) w:=by
 obtain⟨j,hj⟩:=Yct;have h:=run_equalIn_array (P:=Tryd.prog) w 9999 (arn 6 f) (arn 6 g) Tryd.underlying23 hj;exact h.trans (Yg4 6 9998 f g w (List.range 6) fun i hi=>List.mem_range.1 hi)
end Go.Proofs.YtkgabfmjfhljdaaDoor