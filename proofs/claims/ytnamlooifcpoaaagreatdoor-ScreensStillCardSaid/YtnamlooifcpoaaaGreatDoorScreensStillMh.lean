/- No condition. -/
import Derived.Test.YtnamlooifcpoaaaGreatDoorScreensStillMa
import Derived.Test.YtnamlooifcpoaaaGreatDoorScreensStillMe
import Derived.Test.YtnamlooifcpoaaaGreatDoorScreensStillMf
import Derived.Test.YtnamlooifcpoaaaGreatDoorScreensStillMg
import Derived.Deep.WholeRow
import Derived.RegionTactic
namespace Go.Proofs.YtnamlooifcpoaaaGreatDoor
open Go.RowKit Go.Lib Go.ChangeShapes Go.WideShapes Go.ChangeAt
def arn (n:Nat)(f:Nat→Int):Array Value:=((List.range n).map fun i=>.int .i64 (f i)).toArray
theorem Yar (n:Nat)(f:Nat→Int):(arn n f).size=n:=by simp[arn]
theorem Yfm {n:Nat}(f:Nat→Int){i:Nat}(h:i<n):(arn n f)[i]? =some (.int .i64 (f i)):=by simp[arn,h]
theorem Ybz (n:Nat)(f:Nat→Int):(arn n f).all (·.oneCell')=true:=by
 rw[Array.all_eq_true_iff_forall_mem];intro v hv;obtain⟨i,_,rfl⟩:=List.mem_map.1 (by simpa [arn] using hv:v∈(List.range n).map fun i=>Value.int .i64 (f i))
 rfl
theorem Ybo {n:Nat}{f g:Nat→Int}(h:∀i,i<n→f i=g i):arn n f=arn n g:=by
 unfold arn
 congr 1
 refine List.map_congr_left fun i hi=>?_;rw[h i (List.mem_range.1 hi)]
theorem Yyc {n:Nat}(f:Nat→Int)(i:Nat)(v:Int):(arn n f).setIfInBounds i (.int .i64 v)=arn n (Ycw f i v):=by
 apply Array.ext';refine List.ext_getElem? fun k=>?_;by_cases e:i=k
 ·subst e;by_cases hk:i<n <;> simp[arn,Ycw,hk]
 ·by_cases hk:k<n
  ·have hne:¬ k=i:=fun h=>e h.symm;simp[arn,Ycw,hk,e,hne]
  ·simp[arn,hk]
section
variable {P:Program}{T E:TypeId}{n:Nat}
theorem Yg8 (h:(P.info? T).map (·.size)=some n)(f:Nat→Int):(P.info? T).map (·.size)=some (arn n f).size:=by rw[Yar];exact h
theorem Yld {I:TypeInfo}(hT:P.underlying T=some (.array n E))(hI:P.info? E=some I)(hc:P.cellsOf E=1)(hp:P.plainKey E=true)(f:Nat→Int){i:Nat}(h:i<n)(w:World):(Instr.index T (.agg (arn n f)) (.int .i64 (i:Int))).run P w=.ok (.int .i64 (f i)) w:=by
 have h1:(0:Int)≤(i:Int)∧(i:Int)<((n:Nat):Int):=by omega
 simp only[Instr.index,asIntOf,Sem.run_bind,Sem.run_pure,Result.andThen_ok,run_underlying hT,if_pos h1,run_sizeOf w hI,hc,Nat.mul_one,Int.toNat_natCast];exact run_part_plain w hp (Yfm f h)
theorem Yj2 (h:(P.info? T).map (fun i=>i.zero)=some (some (.agg (arn n fun _=>0))))(w:World):(zeroValue T).run P w=.ok (.agg (arn n fun _=>0)) w:=by
 generalize (arn n fun _=>0)=Z at h ⊢;cases hq:P.info? T with
 |none=>simp[hq] at h
 |some i=>
  simp[hq] at h;simp[zeroValue,typeInfo,hq,h]
end
def Ydn (T:TypeId)(n:Nat)(f:Nat→Int):Obj:=.cells (arn n f) T (0,0)
theorem Ydj {w:World}{B i n:Nat}{T:TypeId}{f:Nat→Int}(h:w.heap[B]? =some (Ydn T n f))(hi:i<n):w.cell? ⟨B,i,none⟩=some (.int .i64 (f i)):=by
 rw[cell_of_row w B i _ _ _ h];exact Yfm f hi
theorem Yfn {w:World}{B i n:Nat}{T:TypeId}{f:Nat→Int}(h:w.heap[B]? =some (Ydn T n f)):w.frozen? ⟨B,i,none⟩=false:=frozen_of_row w B i _ _ h
theorem Yg7 {w:World}{B i n:Nat}{T:TypeId}{f:Nat→Int}(v:Int)(h:w.heap[B]? =some (Ydn T n f)):(w.setCell ⟨B,i,none⟩ (.int .i64 v)).heap[B]? =some (Ydn T n (Ycw f i v)):=by
 rw[heap_setCell_same w B i _ _ _ h];unfold Ydn;rw[Yyc]
def Yb4 (n:Nat)(g:Nat→Int)(w:World)(e:Ending)(w':World):Prop:=e=.returned (.agg (arn n g))∧Below w.heap.size w w'
theorem Yfo {n:Nat}{g h:Nat→Int}{w w':World}{Z:Array Value}(hg:∀i,i<n→h i=g i)(hZ:arn n h=Z)(hb:Below w.heap.size w w'):Yb4 n g w (.returned (.agg Z)) w':=by
 unfold Yb4;rw[←hZ,Ybo hg];exact⟨rfl,hb⟩
theorem Ydu (n:Nat)(g:Nat→Int):∀p,p<n→Ybn g n p=g p:=by
 intro p hp;rw[Ygb,if_pos hp]
theorem Ytx (g:Nat→Int)(u:Nat):∀p,Ycw (Ybn g u) u 0 p=Ybn g u p:=by
 intro p;unfold Ycw;by_cases e:p=u
 ·subst e;rw[if_pos rfl,Ygb,if_neg (by omega)]
 ·rw[if_neg e]
theorem Yqw (f:Nat→Int)(i:Nat)(x y:Int):Ycw (Ycw f i x) i y=Ycw f i y:=by
 funext p
 unfold Ycw;by_cases e:p=i
 ·rw[if_pos e,if_pos e]
 ·rw[if_neg e,if_neg e,if_neg e]
theorem Yzg (f:Nat→Int)(i:Nat)(x:Int):Ycw f i x i=x:=by
 unfold Ycw;rw[if_pos rfl]
theorem Yaf {P:Program}{ops:Array Oper}{rest:List Oper}{op:Oper}{a:Act}{w:World}{Q:Exit→Act→World→Prop}(hgd:op.guard=none)(ty:TypeId)(x y:Operand)(ho:op.op=.store ty x y)
  (Z old:Array Value)(T:TypeId)(hx:a.eval x=.pointer (some ⟨w.heap.size,0,none⟩))(hy:a.eval y=.agg Z)(hi:(P.info? ty).map (·.size)=some Z.size)(hs:old.size=Z.size)(h1:Z.all (·.oneCell')=true)
  (h:wpList P ops Q rest (a.put op.dst undef) (w.alloc (.cells Z T (0,0)))):wpList P ops Q (op::rest) a (w.alloc (.cells old T (0,0))):=by
 refine wpList_store_row hgd ty x y ho w.heap.size Z hx hy T old (heap_alloc_last w _) hi hs h1 ?_;rw[World.setRow_alloc_new];exact h
theorem Ygs (w:World)(o1 o2:Obj):∃(B:Nat) (wA wB:World),w.heap.size=B∧w.alloc o1=wA∧wA.alloc o2=wB∧wA.heap.size=B+1∧wB.heap.size=B+2∧wB.heap[B]? =some o1∧wB.heap[B+1]? =some o2∧Below B w wB:=
 ⟨_,_,_,rfl,rfl,rfl,by simp,by simp,Yaq (heap_alloc_new w _),by simpa using heap_alloc_new (w.alloc o1) o2,((Below.refl _ w).alloc (Nat.le_refl _) _).alloc (by simp) _⟩
theorem Yic (w:World)(o1 o2 o3:Obj):∃(B:Nat) (wA wB wC:World),w.heap.size=B∧w.alloc o1=wA∧wA.alloc o2=wB∧wB.alloc o3=wC∧wA.heap.size=B+1∧wB.heap.size=B+2∧wC.heap.size=B+3∧wC.heap[B]? =some o1∧wC.heap[B+1]? =some o2∧wC.heap[B+2]? =some o3∧Below B w wC:=
 ⟨_,_,_,_,rfl,rfl,rfl,rfl,by simp,by simp,by simp,Yaq (Yaq (heap_alloc_new w _)),Yaq (by simpa using heap_alloc_new (w.alloc o1) o2),by simpa using heap_alloc_new ((w.alloc o1).alloc o2) o3,(((Below.refl _ w).alloc (Nat.le_refl _) _).alloc (by simp) _).alloc (by simp;omega) _⟩
end Go.Proofs.YtnamlooifcpoaaaGreatDoor
namespace Go.Proofs.YtnamlooifcpoaaaGreatDoor
open Go.RowKit Go.Lib
def ptO (g:Nat→Int):Obj:=Ydn 62 384 g
theorem Ytv:(Tryz.prog.info? 62).map (·.size)=some 384:=by kernel_rfl
theorem Yb6 (g:Nat→Int):(Tryz.prog.info? 62).map (·.size)=some (arn 384 g).size:=Yg8 Ytv g
theorem Yek:∀w,(zeroValue 62).run Tryz.prog w=.ok (.agg (arn 384 fun _=>0)) w:=Yj2 (by kernel_rfl)
theorem Ypl:Tryz.prog.cellsOf 60=64:=by kernel_rfl
theorem Yoj:∃i,Tryz.prog.info? 60=some i∧i.size=64:=by
 have h:(Tryz.prog.info? 60).map (·.size)=some 64:=by kernel_rfl
 cases hq:Tryz.prog.info? 60 with
 |none=>simp[hq] at h
 |some i=>exact⟨i,rfl,by simpa [hq] using h⟩
theorem Yqc (f:Nat→Int){i:Nat}(h:i<6):(arn 384 f).extract (i*64) (i*64+64)=Ya7 fun j=>f (i*64+j):=by
 apply Array.ext_getElem?;intro q;rw[Array.getElem?_extract,Yar];by_cases hq:q<64
 ·rw[if_pos (by omega),Yfm f (show i*64+q<384 by omega),Ync _ hq]
 ·rw[if_neg (by omega),Array.getElem?_eq_none (by rw[Yam];omega)]
theorem Ymg (A:Array Value)(o:Nat)(w:World):(part 60 A o).run Tryz.prog w=.ok (.agg (A.extract o (o+64))) w:=by
 obtain⟨j,hj,hs⟩:=Yoj;simp[part,isAgg,run_underlying Tryz.underlying60,sizeOf,typeInfo,hj,hs]
theorem Ywp (pt:Nat→Int){b:Nat}(hb:b<6)(w:World):(Instr.index 62 (.agg (arn 384 pt)) (.int .i64 (b:Int))).run Tryz.prog w=.ok (.agg (Ya7 fun j=>pt (b*64+j))) w:=by
 obtain⟨j,hj,hs⟩:=Yoj;have h1:(0:Int)≤(b:Int)∧(b:Int)<((6:Nat):Int):=by omega
 have hp:=Ymg (arn 384 pt) (b*64) w;rw[Yqc pt hb] at hp;simp only[Instr.index,asIntOf,Sem.run_bind,Sem.run_pure,Result.andThen_ok,run_underlying Tryz.underlying62,if_pos h1,run_sizeOf w hj,Int.toNat_natCast,Ypl,hp]
theorem Yyy (w:World)(o1 o2 o3 o4:Obj):∃(B:Nat) (wA wB wC wD:World),w.heap.size=B∧w.alloc o1=wA∧wA.alloc o2=wB∧wB.alloc o3=wC∧wC.alloc o4=wD∧wA.heap.size=B+1∧wB.heap.size=B+2∧wC.heap.size=B+3∧wD.heap.size=B+4∧wD.heap[B]? =some o1∧wD.heap[B+1]? =some o2∧wD.heap[B+2]? =some o3∧wD.heap[B+3]? =some o4∧Below B w wD:=by
 obtain⟨B,wA,wB,wC,h1,h2,h3,h4,h5,h6,h7,h8,h9,h10,h11⟩:=Yic w o1 o2 o3;refine⟨B,wA,wB,wC,wC.alloc o4,h1,h2,h3,h4,rfl,h5,h6,h7,by simp;omega,Yaq h8,Yaq h9,Yaq h10,?_,h11.alloc (by omega) _⟩;rw[←h7];exact heap_alloc_new wC _
def Yx2 (g h:Nat→Int)(o:Nat):Nat→Int:=fun s=>if o≤s∧s<o+64 then h (s-o) else g s
theorem Yj1 (n o:Nat)(g h:Nat→Int)(hfit:o+64≤n):((arn n g).toList.take o++((Ya7 h).toList++(arn n g).toList.drop (o+64))).toArray=arn n (Yx2 g h o):=by
 unfold arn Ya7 Ypj;refine congrArg List.toArray (List.ext_getElem? fun i=>?_);by_cases h1:i<o
 ·rw[List.getElem?_append_left (by simp;omega),List.getElem?_take_of_lt h1];simp[show i<n by omega,Yx2,show ¬ o≤i by omega]
 ·rw[List.getElem?_append_right (by simp;omega)];by_cases h2:i<o+64
  ·rw[List.getElem?_append_left (by simp;omega)];simp[show i<n by omega,Yx2,show o≤i∧i<o+64 by omega,show min o n=o by omega,show i-o<64 by omega]
  ·rw[List.getElem?_append_right (by simp;omega),List.getElem?_drop];by_cases h3:i<n
   ·simp[h3,Yx2,show ¬ (o≤i∧i<o+64) by omega,show min o n=o by omega,show o+64+(i-o-64)=i by omega]
   ·simp[h3,show min o n=o by omega,show o+64+(i-o-64)=i by omega]
theorem Yma {g h:Nat→Int}{b:Nat}(hh:∀i,i<64→h i=g (64*b+i)):arn 384 (Yx2 (Ybn g (64*b)) h (64*b))=arn 384 (Ybn g (64*(b+1))):=by
 refine Ybo fun s _=>?_;unfold Yx2;rw[Ygb,Ygb];by_cases h1:64*b≤s∧s<64*b+64
 ·rw[if_pos h1,if_pos (by omega),hh _ (by omega),show 64*b+(s-64*b)=s by omega]
 ·rw[if_neg h1];by_cases h2:s<64*b
  ·rw[if_pos h2,if_pos (by omega)]
  ·rw[if_neg h2,if_neg (by omega)]
theorem Yio {P:Program}{ops:Array Oper}{rest:List Oper}{op:Oper}{a:Act}{w:World}{Q:Exit→Act→World→Prop}(hgd:op.guard=none)(ty:TypeId)(x y:Operand)(ho:op.op=.store ty x y)
  (B b o:Nat)(hO:o=64*b)(T:TypeId)(g h:Nat→Int)(Z:Array Value)(hZ:Ya7 h=Z)(hx:a.eval x=.pointer (some ⟨B,o,none⟩))(hy:a.eval y=.agg Z)(hg:w.heap[B]? =some (Ydn T 384 (Ybn g (64*b))))(hb:b<6)(hh:∀i,i<64→h i=g (64*b+i))
  (hi:(P.info? ty).map (·.size)=some Z.size)
  (hk:∀w',Hid (w'.heap[B]? =some (Ydn T 384 (Ybn g (64*(b+1)))))→w.grownBy w' (some B)→wpList P ops Q rest (a.put op.dst undef) w'):wpList P ops Q (op::rest) a w:=by
 subst hZ hO;refine Yb1 hgd ty x y ho B (64*b) (Ya7 h) hx hy _ T hg hi (fun v hv=>(Array.all_eq_true_iff_forall_mem.1 (Ybd h)) v (by simpa using hv)) (by rw[Yam,Yar];omega) fun w' h1 h2=>?_;refine hk w' (Lib.hid ?_) h2;have:=h1.out;rw[Yam,Yj1 384 (64*b) _ _ (by omega),Yma hh] at this;exact this
theorem Ygt {P:Program}{op:Oper}{a:Act}{w:World}{K:Act→World→Prop}{Q:Exit→Act→World→Prop}(ty:TypeId)(x y:Operand)(ho:op.op=.store ty x y)
  (B b o:Nat)(hO:o=64*b)(T:TypeId)(g h:Nat→Int)(Z:Array Value)(hZ:Ya7 h=Z)(hx:a.eval x=.pointer (some ⟨B,o,none⟩))(hy:a.eval y=.agg Z)(hg:w.heap[B]? =some (Ydn T 384 (Ybn g (64*b))))(hb:b<6)(hh:∀i,i<64→h i=g (64*b+i))
  (hi:(P.info? ty).map (·.size)=some Z.size)
  (hk:∀w',Hid (w'.heap[B]? =some (Ydn T 384 (Ybn g (64*(b+1)))))→w.grownBy w' (some B)→K (a.put op.dst undef) w'):Oper.wp P op a w K Q:=by
 subst hZ;have h1:∀v∈(Ya7 h).toList,v.oneCell'=true:=fun v hv=>(Array.all_eq_true_iff_forall_mem.1 (Ybd h)) v (by simpa using hv);obtain⟨C,hC⟩:∃C,arn 384 (Ybn g (64*b))=C:=⟨_,rfl⟩;have hCs:C.size=384:=by rw[←hC];exact Yar _ _
 have hg':w.heap[B]? =some (.cells C T (0,0)):=by rw[←hC];exact hg
 have hrun:=run_storeCells_at (P:=P) B o T (Ya7 h).toList 0 C w hg' (by have:=Yam h;simp;omega) h1;have hst:(storeVar ty ⟨B,o,none⟩ (.agg (Ya7 h))).run P w=.ok () (w.setRow B (C.toList.take o++((Ya7 h).toList++C.toList.drop (o+(Ya7 h).size))).toArray):=by
  cases hq:P.info? ty with
  |none=>simp[hq] at hi
  |some i=>
   have hs:i.size=(Ya7 h).size:=by simpa [hq] using hi
   simp only[Nat.add_zero,Array.length_toList] at hrun;simp[storeVar,sizeOf,typeInfo,hq,Value.cells,hs,hrun]
 unfold Oper.wp execOp;simp only[ho,hx,hy,Instr.storeAt,Instr.sureAddr,Sem.run_bind,Sem.run_pure,Result.andThen_ok,hst];refine hk _ (Lib.hid ?_) ⟨rfl,rfl,rfl,by simp,fun k _ hk=>setRow_other w B k _ (by intro e;exact hk (by rw[e]))⟩;refine(setRow_heap w B _ _ T _ hg').trans ?_;rw[Yam,←hC,hO,Yj1 384 (64*b) _ _ (by omega),Yma hh]
 rfl
def Yh4 (a b:Int):Array Value:=#[.int .i64 a,.int .i64 b]
theorem Ype {w:World}{B:Nat}{a b:Int}(h:w.heap[B]? =some (.cells (Yh4 a b) 43 (0,0))):w.cell? ⟨B,0,none⟩=some (.int .i64 a)∧w.cell? ⟨B,1,none⟩=some (.int .i64 b):=
 ⟨Yac (cs:=[.int .i64 a,.int .i64 b]) h rfl,Yac (cs:=[.int .i64 a,.int .i64 b]) h rfl⟩
theorem Yxq:(Tryz.prog.info? 43).map (·.size)=some 2:=by kernel_rfl
theorem Yem (a b:Int):(Tryz.prog.info? 43).map (·.size)=some (Yh4 a b).size:=Yxq
theorem Yzs (a b:Int):(Yh4 a b).all (·.oneCell')=true:=by simp[Yh4,Value.oneCell']
theorem Ymz (a b c d:Int)(w:World):(Op.equalIn 10000 43 (.agg #[.int .i64 a,.int .i64 b]) (.agg #[.int .i64 c,.int .i64 d])).run Tryz.prog w=.ok (a==c&&b==d) w:=by
 obtain⟨j,hj⟩:=Yer;have h:=run_equalIn_array (P:=Tryz.prog) w 9999 #[.int .i64 a,.int .i64 b] #[.int .i64 c,.int .i64 d] Tryz.underlying43 hj;refine h.trans ?_;have p1:=run_part_plain (P:=Tryz.prog) w Ycf (show (#[.int .i64 a,.int .i64 b]:Array Value)[0]? =some (.int .i64 a) from rfl)
 have p2:=run_part_plain (P:=Tryz.prog) w Ycf (show (#[.int .i64 a,.int .i64 b]:Array Value)[1]? =some (.int .i64 b) from rfl);have p3:=run_part_plain (P:=Tryz.prog) w Ycf (show (#[.int .i64 c,.int .i64 d]:Array Value)[0]? =some (.int .i64 c) from rfl);have p4:=run_part_plain (P:=Tryz.prog) w Ycf (show (#[.int .i64 c,.int .i64 d]:Array Value)[1]? =some (.int .i64 d) from rfl)
 have q1:=run_equalIn_int (P:=Tryz.prog) w 9998 3 .i64 .i64 a c Tryz.underlying3;have q2:=run_equalIn_int (P:=Tryz.prog) w 9998 3 .i64 .i64 b d Tryz.underlying3;show (Op.eqItems 9999 3 (Tryz.prog.cellsOf 3) _ _ [0,1]).run Tryz.prog w=_;rw[Ydt];simp only[Op.eqItems,Sem.run_bind,Nat.mul_one,p1,p3,q1,Result.andThen_ok];cases hq:(a==c) with
 |false=>simp
 |true=>
  simp only[Bool.not_true,Bool.false_eq_true,if_false,Sem.run_bind,p2,p4,q2,Result.andThen_ok,Bool.true_and];cases hq2:(b==d) <;> simp
theorem Ylq (n d:Nat)(f g:Nat→Int)(w:World):∀is:List Nat,(∀i∈is,i<n)→(Op.eqItems (d+1) 3 (Tryz.prog.cellsOf 3) (arn n f) (arn n g) is).run Tryz.prog w=.ok (is.all fun i=>f i==g i) w
 |[],_=>by simp[Op.eqItems]
 |i::is,h=>by
  have hi:=h i List.mem_cons_self;have p1:=run_part_plain (P:=Tryz.prog) w Ycf (Yfm f hi);have p2:=run_part_plain (P:=Tryz.prog) w Ycf (Yfm g hi);have p3:=run_equalIn_int (P:=Tryz.prog) w d 3 .i64 .i64 (f i) (g i) Tryz.underlying3;have ih:=Ylq n d f g w is fun k hk=>h k (List.mem_cons_of_mem _ hk);rw[Ydt] at ih ⊢
  simp only[Op.eqItems,Sem.run_bind,Nat.mul_one,p1,p2,p3,Result.andThen_ok,List.all_cons];cases hq:(f i==g i) with
  |false=>simp
  |true=>simpa using ih
theorem Yut (f g:Nat→Int)(w:World):(Op.equalIn 10000 44 (.agg #[.int .i64 (f 0),.int .i64 (f 1),.int .i64 (f 2),.int .i64 (f 3),.int .i64 (f 4),.int .i64 (f 5)]) (.agg #[.int .i64 (g 0),.int .i64 (g 1),.int .i64 (g 2),.int .i64 (g 3),.int .i64 (g 4),.int .i64 (g 5)])).run Tryz.prog w=.ok ((List.range 6).all fun i=>f i==g i) w:=by
 obtain⟨j,hj⟩:=Yer;have h:=run_equalIn_array (P:=Tryz.prog) w 9999 (arn 6 f) (arn 6 g) Tryz.underlying44 hj;exact h.trans (Ylq 6 9998 f g w (List.range 6) fun i hi=>List.mem_range.1 hi)
end Go.Proofs.YtnamlooifcpoaaaGreatDoor