/- Part 10 of StripsOnce. No condition. -/
import Derived.Test.YtjjmalchelniiaaGreatDoorStripsOnceMa
import Derived.Test.YtjjmalchelniiaaGreatDoorStripsOnceMf
import Derived.Test.YtjjmalchelniiaaGreatDoorStripsOnceMh
import Derived.Test.YtjjmalchelniiaaGreatDoorStripsOnceMi
import Derived.Deep.WholeRow
import Derived.Deep.Slices
import Derived.Deep.MidRow
import Derived.RegionTactic
import Derived.OwnWalk
import Derived.Laws.AppendOwn
import Derived.ChangeMaps5
namespace Go.Proofs.YtjjmalchelniiaaGreatDoor
open Go.RowKit Go.Lib Go.ChangeShapes Go.WideShapes Go.ChangeAt
def arn (n:Nat)(f:Nat→Int):Array Value:=((List.range n).map fun i=>.int .i64 (f i)).toArray
theorem Qgd {n:Nat}(f:Nat→Int){i:Nat}(h:i<n):(arn n f)[i]? =some (.int .i64 (f i)):=by simp[arn,h]
section
variable {P:Program}{T E:TypeId}{n:Nat}
end
theorem Yao {P:Program}{ops:Array Oper}{rest:List Oper}{op:Oper}{a:Act}{w:World}{Q:Exit→Act→World→Prop}(hgd:op.guard=none)(ty:TypeId)(x y:Operand)(ho:op.op=.store ty x y)
  (Z old:Array Value)(T:TypeId)(hx:a.eval x=.pointer (some ⟨w.heap.size,0,none⟩))(hy:a.eval y=.agg Z)(hi:(P.info? ty).map (·.size)=some Z.size)(hs:old.size=Z.size)(h1:Z.all (·.oneCell')=true)
  (h:wpList P ops Q rest (a.put op.dst undef) (w.alloc (.cells Z T (0,0)))):wpList P ops Q (op::rest) a (w.alloc (.cells old T (0,0))):=by
 refine wpList_store_row hgd ty x y ho w.heap.size Z hx hy T old (heap_alloc_last w _) hi hs h1 ?_;rw[World.setRow_alloc_new];exact h
theorem Y4k (w:World)(o1 o2:Obj):∃(B:Nat) (wA wB:World),w.heap.size=B∧w.alloc o1=wA∧wA.alloc o2=wB∧wA.heap.size=B+1∧wB.heap.size=B+2∧wB.heap[B]? =some o1∧wB.heap[B+1]? =some o2∧Below B w wB:=
 ⟨_,_,_,rfl,rfl,rfl,by simp,by simp,Ybc (heap_alloc_new w _),by simpa using heap_alloc_new (w.alloc o1) o2,((Below.refl _ w).alloc (Nat.le_refl _) _).alloc (by simp) _⟩
theorem Qje (w:World)(o1 o2 o3:Obj):∃(B:Nat) (wA wB wC:World),w.heap.size=B∧w.alloc o1=wA∧wA.alloc o2=wB∧wB.alloc o3=wC∧wA.heap.size=B+1∧wB.heap.size=B+2∧wC.heap.size=B+3∧wC.heap[B]? =some o1∧wC.heap[B+1]? =some o2∧wC.heap[B+2]? =some o3∧Below B w wC:=
 ⟨_,_,_,_,rfl,rfl,rfl,rfl,by simp,by simp,by simp,Ybc (Ybc (heap_alloc_new w _)),Ybc (by simpa using heap_alloc_new (w.alloc o1) o2),by simpa using heap_alloc_new ((w.alloc o1).alloc o2) o3,(((Below.refl _ w).alloc (Nat.le_refl _) _).alloc (by simp) _).alloc (by simp;omega) _⟩
end Go.Proofs.YtjjmalchelniiaaGreatDoor
namespace Go.Proofs.YtjjmalchelniiaaGreatDoor
open Go.RowKit Go.Lib
def Y2w (a b:Int):Array Value:=#[.int .i64 a,.int .i64 b]
theorem Y2x {w:World}{B:Nat}{a b:Int}(h:w.heap[B]? =some (.cells (Y2w a b) 73 (0,0))):w.cell? ⟨B,0,none⟩=some (.int .i64 a)∧w.cell? ⟨B,1,none⟩=some (.int .i64 b):=
 ⟨Yab (cs:=[.int .i64 a,.int .i64 b]) h rfl,Yab (cs:=[.int .i64 a,.int .i64 b]) h rfl⟩
theorem Qfu:(Tryz.prog.info? 73).map (·.size)=some 2:=by kernel_rfl
theorem Qis (a b:Int):(Y2w a b).all (·.oneCell')=true:=by simp[Y2w,Value.oneCell']
theorem Yx7 (a b c d:Int)(w:World):(Op.equalIn 10000 73 (.agg #[.int .i64 a,.int .i64 b]) (.agg #[.int .i64 c,.int .i64 d])).run Tryz.prog w=.ok (a==c&&b==d) w:=by
 obtain⟨j,hj⟩:=Y1s;have h:=run_equalIn_array (P:=Tryz.prog) w 9999 #[.int .i64 a,.int .i64 b] #[.int .i64 c,.int .i64 d] Tryz.underlying73 hj;refine h.trans ?_;have p1:=run_part_plain (P:=Tryz.prog) w Ygd (show (#[.int .i64 a,.int .i64 b]:Array Value)[0]? =some (.int .i64 a) from rfl)
 have p2:=run_part_plain (P:=Tryz.prog) w Ygd (show (#[.int .i64 a,.int .i64 b]:Array Value)[1]? =some (.int .i64 b) from rfl);have p3:=run_part_plain (P:=Tryz.prog) w Ygd (show (#[.int .i64 c,.int .i64 d]:Array Value)[0]? =some (.int .i64 c) from rfl);have p4:=run_part_plain (P:=Tryz.prog) w Ygd (show (#[.int .i64 c,.int .i64 d]:Array Value)[1]? =some (.int .i64 d) from rfl)
 have q1:=run_equalIn_int (P:=Tryz.prog) w 9998 3 .i64 .i64 a c Tryz.underlying3;have q2:=run_equalIn_int (P:=Tryz.prog) w 9998 3 .i64 .i64 b d Tryz.underlying3;show (Op.eqItems 9999 3 (Tryz.prog.cellsOf 3) _ _ [0,1]).run Tryz.prog w=_;rw[Ywm];simp only[Op.eqItems,Sem.run_bind,Nat.mul_one,p1,p3,q1,Result.andThen_ok];cases hq:(a==c) with
 |false=>simp
 |true=>
  simp only[Bool.not_true,Bool.false_eq_true,if_false,Sem.run_bind,p2,p4,q2,Result.andThen_ok,Bool.true_and];cases hq2:(b==d) <;> simp
def Ynq (w:World)(p:Option Addr)(n:Nat)(f:Nat→Int×Int):Prop:=
 n=0∨∃b o,p=some ⟨b,o,none⟩∧b<w.heap.size∧∀i,i<n→w.cell? ⟨b,o+i*2,none⟩=some (.int .i64 (f i).1)∧w.cell? ⟨b,o+i*2+1,none⟩=some (.int .i64 (f i).2)
theorem Ynq.mono {w w':World}{p:Option Addr}{n:Nat}{f:Nat→Int×Int}(h:Ynq w p n f)(hb:Below w.heap.size w w'):Ynq w' p n f:=by
 rcases h with h|⟨b,o,rfl,hlt,hc⟩
 ·exact .inl h
 ·refine .inr ⟨b,o,rfl,by have:=hb.size;omega,fun i hi=>?_⟩;obtain⟨h0,h1⟩:=hc i hi;exact⟨(World.cell?_of_block (a:=⟨b,o+i*2,none⟩) (hb.block b hlt)).trans h0,(World.cell?_of_block (a:=⟨b,o+i*2+1,none⟩) (hb.block b hlt)).trans h1⟩
theorem Qbv {w:World}{p:Option Addr}{n:Nat}{f:Nat→Int×Int}(h:Ynq w p n f)(hn:0<n):∃b o,p=some ⟨b,o,none⟩∧∀x,Below w.heap.size w x→∀i,i<n→x.cell? ⟨b,o+i*2,none⟩=some (.int .i64 (f i).1)∧x.cell? ⟨b,o+i*2+1,none⟩=some (.int .i64 (f i).2):=by
 rcases h with h|⟨b,o,rfl,hlt,hc⟩
 ·omega
 ·refine⟨b,o,rfl,fun x hx i hi=>?_⟩;obtain⟨h0,h1⟩:=hc i hi;exact⟨(World.cell?_of_block (a:=⟨b,o+i*2,none⟩) (hx.block b hlt)).trans h0,(World.cell?_of_block (a:=⟨b,o+i*2+1,none⟩) (hx.block b hlt)).trans h1⟩
theorem Yv6 (n d:Nat)(f g:Nat→Int)(w:World):∀is:List Nat,(∀i∈is,i<n)→(Op.eqItems (d+1) 3 (Tryz.prog.cellsOf 3) (arn n f) (arn n g) is).run Tryz.prog w=.ok (is.all fun i=>f i==g i) w
 |[],_=>by simp[Op.eqItems]
 |i::is,h=>by
  have hi:=h i List.mem_cons_self;have p1:=run_part_plain (P:=Tryz.prog) w Ygd (Qgd f hi);have p2:=run_part_plain (P:=Tryz.prog) w Ygd (Qgd g hi);have p3:=run_equalIn_int (P:=Tryz.prog) w d 3 .i64 .i64 (f i) (g i) Tryz.underlying3;have ih:=Yv6 n d f g w is fun k hk=>h k (List.mem_cons_of_mem _ hk);rw[Ywm] at ih ⊢
  simp only[Op.eqItems,Sem.run_bind,Nat.mul_one,p1,p2,p3,Result.andThen_ok,List.all_cons];cases hq:(f i==g i) with
  |false=>simp
  |true=>simpa using ih
theorem Qa2 (f g:Nat→Int)(w:World):(Op.equalIn 10000 74 (.agg #[.int .i64 (f 0),.int .i64 (f 1),.int .i64 (f 2),.int .i64 (f 3),.int .i64 (f 4),.int .i64 (f 5)]) (.agg #[.int .i64 (g 0),.int .i64 (g 1),.int .i64 (g 2),.int .i64 (g 3),.int .i64 (g 4),.int .i64 (g 5)])).run Tryz.prog w=.ok ((List.range 6).all fun i=>f i==g i) w:=by
 obtain⟨j,hj⟩:=Y1s;have h:=run_equalIn_array (P:=Tryz.prog) w 9999 (arn 6 f) (arn 6 g) Tryz.underlying74 hj;exact h.trans (Yv6 6 9998 f g w (List.range 6) fun i hi=>List.mem_range.1 hi)
def Y6e (l:List (Int×Int)):List Value:=l.flatMap fun q=>[Value.int .i64 q.1,Value.int .i64 q.2]
theorem Yx9 (l:List (Int×Int))(q:Int×Int):Y6e (l++[q])=Y6e l++[.int .i64 q.1,.int .i64 q.2]:=by simp[Y6e]
theorem Y20 (l:List (Int×Int))(j:Nat)(h:j<l.length):(Y6e l)[j*2]? =some (.int .i64 l[j].1)∧(Y6e l)[j*2+1]? =some (.int .i64 l[j].2):=by
 induction l generalizing j with
 |nil=>exact absurd h (Nat.not_lt_zero j)
 |cons q l ih=>
  have e:Y6e (q::l)=.int .i64 q.1 :: .int .i64 q.2::Y6e l:=by simp[Y6e]
  rw[e];cases j with
  |zero=>exact⟨rfl,rfl⟩
  |succ j=>
   rw[show (j+1)*2=j*2+1+1 by omega,show j*2+1+1+1=(j*2+1)+1+1 by omega,List.getElem?_cons_succ,List.getElem?_cons_succ,List.getElem?_cons_succ,List.getElem?_cons_succ];exact ih j (by simpa using h)
theorem Y23 {w:World}{base e:Nat}{v:Value}{l:List (Int×Int)}{n:Nat}(hl:l.length=n)(h:w.ownsRow base e 2 v n (Y6e l)):
  ∃(q:Option Addr) (cap:Nat),v=.slice q n cap∧Ynq w q n (fun i=>l.getD i (0,0)):=by
 subst hl;have h0:=h;rcases h.2 with ⟨rfl,h1⟩|⟨g,cap,cur,rfl,_,hg,_⟩
 ·exact⟨none,0,by rw[h1],.inl h1⟩
 ·refine⟨_,cap,rfl,.inr ⟨g,0,rfl,(Array.getElem?_eq_some_iff.1 hg).1,fun i hi=>?_⟩⟩;have e:l.getD i (0,0)=l[i]:=by simp[List.getD,hi]
  have k0:=World.ownsRow.cells (g:=g) h0 rfl (i*2) _ (Y20 l i hi).1;have k1:=World.ownsRow.cells (g:=g) h0 rfl (i*2+1) _ (Y20 l i hi).2;rw[Addr.add_mid] at k0 k1;show w.cell? ⟨g,0+i*2,none⟩=some (.int .i64 (l.getD i (0,0)).1)∧w.cell? ⟨g,0+i*2+1,none⟩=some (.int .i64 (l.getD i (0,0)).2);rw[e];exact⟨k0,k1⟩
theorem Y1r:∃i,Tryz.prog.info? 73=some i∧i.zero=some (.agg #[.int .i64 0,.int .i64 0])∧i.size=2∧i.bytes=16:=by
 have h:(Tryz.prog.info? 73).map (fun i=>(i.zero,i.size,i.bytes))=some (some (.agg #[.int .i64 0,.int .i64 0]),2,16):=by kernel_rfl
 cases hq:Tryz.prog.info? 73 with
 |none=>simp[hq] at h
 |some i=>
  simp[hq] at h;exact⟨i,rfl,h.1,h.2.1,h.2.2⟩
end Go.Proofs.YtjjmalchelniiaaGreatDoor