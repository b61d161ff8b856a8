/- No condition. -/
import Derived.Test.YtndbeacoaimdgaaDoorQuantsGoMa
import Derived.Test.YtndbeacoaimdgaaDoorQuantsGoMh
import Derived.Test.YtndbeacoaimdgaaDoorQuantsGoMk
import Derived.Test.YtndbeacoaimdgaaDoorQuantsGoMl
import Derived.Deep.WholeRow
import Derived.RegionTactic
namespace Go.Proofs.YtndbeacoaimdgaaDoor
open Go.RowKit Go.Lib Go.ChangeShapes Go.WideShapes Go.ChangeAt
def arn (n:Nat)(f:Nat→Int):Array Value:=((List.range n).map fun i=>.int .i64 (f i)).toArray
theorem Yn4 {n:Nat}(f:Nat→Int){i:Nat}(h:i<n):(arn n f)[i]? =some (.int .i64 (f i)):=by simp[arn,h]
section
variable {P:Program}{T E:TypeId}{n:Nat}
end
theorem Yaq {P:Program}{ops:Array Oper}{rest:List Oper}{op:Oper}{a:Act}{w:World}{Q:Exit→Act→World→Prop}(hgd:op.guard=none)(ty:TypeId)(x y:Operand)(ho:op.op=.store ty x y)
  (Z old:Array Value)(T:TypeId)(hx:a.eval x=.pointer (some ⟨w.heap.size,0,none⟩))(hy:a.eval y=.agg Z)(hi:(P.info? ty).map (·.size)=some Z.size)(hs:old.size=Z.size)(h1:Z.all (·.oneCell')=true)
  (h:wpList P ops Q rest (a.put op.dst undef) (w.alloc (.cells Z T (0,0)))):wpList P ops Q (op::rest) a (w.alloc (.cells old T (0,0))):=by
 refine wpList_store_row hgd ty x y ho w.heap.size Z hx hy T old (heap_alloc_last w _) hi hs h1 ?_;rw[World.setRow_alloc_new];exact h
theorem Ypj (w:World)(o1 o2:Obj):∃(B:Nat) (wA wB:World),w.heap.size=B∧w.alloc o1=wA∧wA.alloc o2=wB∧wA.heap.size=B+1∧wB.heap.size=B+2∧wB.heap[B]? =some o1∧wB.heap[B+1]? =some o2∧Below B w wB:=
 ⟨_,_,_,rfl,rfl,rfl,by simp,by simp,Ydm (heap_alloc_new w _),by simpa using heap_alloc_new (w.alloc o1) o2,((Below.refl _ w).alloc (Nat.le_refl _) _).alloc (by simp) _⟩
end Go.Proofs.YtndbeacoaimdgaaDoor
namespace Go.Proofs.YtndbeacoaimdgaaDoor
open Go.RowKit Go.Lib
def Ype (a b:Int):Array Value:=#[.int .i64 a,.int .i64 b]
theorem Ypr {w:World}{B:Nat}{a b:Int}(h:w.heap[B]? =some (.cells (Ype a b) 38 (0,0))):w.cell? ⟨B,0,none⟩=some (.int .i64 a)∧w.cell? ⟨B,1,none⟩=some (.int .i64 b):=
 ⟨Yab (cs:=[.int .i64 a,.int .i64 b]) h rfl,Yab (cs:=[.int .i64 a,.int .i64 b]) h rfl⟩
theorem Yhy (a b c d:Int)(w:World):(Op.equalIn 10000 38 (.agg #[.int .i64 a,.int .i64 b]) (.agg #[.int .i64 c,.int .i64 d])).run Tryd.prog w=.ok (a==c&&b==d) w:=by
 obtain⟨j,hj⟩:=Yiv;have h:=run_equalIn_array (P:=Tryd.prog) w 9999 #[.int .i64 a,.int .i64 b] #[.int .i64 c,.int .i64 d] Tryd.underlying38 hj;refine h.trans ?_;have p1:=run_part_plain (P:=Tryd.prog) w Yb6 (show (#[.int .i64 a,.int .i64 b]:Array Value)[0]? =some (.int .i64 a) from rfl)
 have p2:=run_part_plain (P:=Tryd.prog) w Yb6 (show (#[.int .i64 a,.int .i64 b]:Array Value)[1]? =some (.int .i64 b) from rfl);have p3:=run_part_plain (P:=Tryd.prog) w Yb6 (show (#[.int .i64 c,.int .i64 d]:Array Value)[0]? =some (.int .i64 c) from rfl);have p4:=run_part_plain (P:=Tryd.prog) w Yb6 (show (#[.int .i64 c,.int .i64 d]:Array Value)[1]? =some (.int .i64 d) from rfl)
 have q1:=run_equalIn_int (P:=Tryd.prog) w 9998 3 .i64 .i64 a c Tryd.underlying3;have q2:=run_equalIn_int (P:=Tryd.prog) w 9998 3 .i64 .i64 b d Tryd.underlying3;show (Op.eqItems 9999 3 (Tryd.prog.cellsOf 3) _ _ [0,1]).run Tryd.prog w=_;rw[Yhc];simp only[Op.eqItems,Sem.run_bind,Nat.mul_one,p1,p3,q1,Result.andThen_ok];cases hq:(a==c) with
 |false=>simp
 |true=>
  simp only[Bool.not_true,Bool.false_eq_true,if_false,Sem.run_bind,p2,p4,q2,Result.andThen_ok,Bool.true_and];cases hq2:(b==d) <;> simp
theorem Yg5 (n d:Nat)(f g:Nat→Int)(w:World):∀is:List Nat,(∀i∈is,i<n)→(Op.eqItems (d+1) 3 (Tryd.prog.cellsOf 3) (arn n f) (arn n g) is).run Tryd.prog w=.ok (is.all fun i=>f i==g i) w
 |[],_=>by simp[Op.eqItems]
 |i::is,h=>by
  have hi:=h i List.mem_cons_self;have p1:=run_part_plain (P:=Tryd.prog) w Yb6 (Yn4 f hi);have p2:=run_part_plain (P:=Tryd.prog) w Yb6 (Yn4 g hi);have p3:=run_equalIn_int (P:=Tryd.prog) w d 3 .i64 .i64 (f i) (g i) Tryd.underlying3;have ih:=Yg5 n d f g w is fun k hk=>h k (List.mem_cons_of_mem _ hk);rw[Yhc] at ih ⊢
  simp only[Op.eqItems,Sem.run_bind,Nat.mul_one,p1,p2,p3,Result.andThen_ok,List.all_cons];cases hq:(f i==g i) with
  |false=>simp
  |true=>simpa using ih
theorem Ymg (f g:Nat→Int)(w:World):(Op.equalIn 10000 39 (.agg #[.int .i64 (f 0),.int .i64 (f 1),.int .i64 (f 2),.int .i64 (f 3),.int .i64 (f 4),.int .i64 (f 5)]) (.agg #[.int .i64 (g 0),.int .i64 (g 1),.int .i64 (g 2),.int .i64 (g 3),.int .i64 (g 4),.int .i64 (g 5)])).run Tryd.prog w=.ok ((List.range 6).all fun i=>f i==g i) w:=by
 obtain⟨j,hj⟩:=Yiv;have h:=run_equalIn_array (P:=Tryd.prog) w 9999 (arn 6 f) (arn 6 g) Tryd.underlying39 hj;exact h.trans (Yg5 6 9998 f g w (List.range 6) fun i hi=>List.mem_range.1 hi)
end Go.Proofs.YtndbeacoaimdgaaDoor