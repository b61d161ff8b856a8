/- StripsWrites, 9. No condition. -/
import Derived.Test.YtjjmalchelniiaaGreatDoorStripsWritesMa
import Derived.Test.YtjjmalchelniiaaGreatDoorStripsWritesMf
import Derived.Test.YtjjmalchelniiaaGreatDoorStripsWritesMh
import Derived.Deep.WholeRow
open Go.Proofs.Tryz
open Go renaming Value->A0,Program->A3,Oper->A4,World->A5
namespace Go.Proofs.YtjjmalchelniiaaGreatDoor
section
open Go.RowKit Go.Lib Go.ChangeShapes Go.WideShapes Go.ChangeAt
abbrev Gp:=@Nat.not_lt_zero
abbrev Gq:=@underlying73
abbrev Gr:=@Bool.true_and
abbrev Gs:=@List.all_cons
abbrev Gt:=@run_part_plain
abbrev Gu:=@List.getElem?_cons_succ
abbrev Gv:=@underlying3
abbrev Gw:=@Nat.mul_one
abbrev Gx:=@run_equalIn_int
def arn (n:Nat)(f:Nat->Int):Array A0:=((List.range n).map fun i=>.int .i64 (f i)).toArray
theorem X6 {n:Nat}(f:Nat->Int){i:Nat}(h:i<n):(arn n f)[i]? =some (.int .i64 (f i)):=by simp[arn,h]
section
variable {P:A3}{T E:TypeId}{n:Nat}
end
theorem DA {P:A3}{ops:Array A4}{rest:List A4}{op:A4}{a:Act}{w:A5}{Q:Exit->Act->A5->Prop}(c:op.guard=none)(ty:TypeId)(x y:Operand)(ho:op.op=.store ty x y)
  (Z b:Array A0)(T:TypeId)(d:a.eval x=.pointer (some ⟨w.heap.size,0,none⟩))(e:a.eval y=.agg Z)(hi:(P.info? ty).map (·.size)=some Z.size)(hs:b.size=Z.size)(h1:Z.all (·.oneCell')=true)
  (h:wpList P ops Q rest (a.put op.dst undef) (w.alloc (.cells Z T (0,0)))):wpList P ops Q (op::rest) a (w.alloc (.cells b T (0,0))):=by
 refine wpList_store_row c ty x y ho w.heap.size Z d e T b (heap_alloc_last w _) hi hs h1 ?_;rw[World.setRow_alloc_new];exact h
theorem NC (w:A5)(b c:Obj):∃(B:Nat) (d a:A5),w.heap.size=B/\w.alloc b=d/\d.alloc c=a/\d.heap.size=B+1/\a.heap.size=B+2/\a.heap[B]? =some b/\a.heap[B+1]? =some c/\Below B w a:=
 ⟨_,_,_,rfl,rfl,rfl,by simp,by simp,BW (heap_alloc_new w _),by simpa using heap_alloc_new (w.alloc b) c,((Ea _ w).alloc (Ba _) _).alloc (by simp) _⟩
theorem ZI (w:A5)(b c d:Obj):∃(B:Nat) (e f a:A5),w.heap.size=B/\w.alloc b=e/\e.alloc c=f/\f.alloc d=a/\e.heap.size=B+1/\f.heap.size=B+2/\a.heap.size=B+3/\a.heap[B]? =some b/\a.heap[B+1]? =some c/\a.heap[B+2]? =some d/\Below B w a:=
 ⟨_,_,_,_,rfl,rfl,rfl,rfl,by simp,by simp,by simp,BW (BW (heap_alloc_new w _)),BW (by simpa using heap_alloc_new (w.alloc b) c),by simpa using heap_alloc_new ((w.alloc b).alloc c) d,(((Ea _ w).alloc (Ba _) _).alloc (by simp) _).alloc (by simp;omega) _⟩
end
section
open Go.RowKit Go.Lib
def BN (a b:Int):Array A0:=#[.int .i64 a,.int .i64 b]
theorem HQ {w:A5}{B:Nat}{a b:Int}(h:w.heap[B]? =some (.cells (BN a b) 73 (0,0))):w.cell? ⟨B,0,none⟩=some (.int .i64 a)/\w.cell? ⟨B,1,none⟩=some (.int .i64 b):=
 ⟨AA (cs:=[.int .i64 a,.int .i64 b]) h rfl,AA (cs:=[.int .i64 a,.int .i64 b]) h rfl⟩
theorem Pm:(prog.info? 73).map (·.size)=some 2:=by kernel_rfl
theorem OA (a b:Int):(BN a b).all (·.oneCell')=true:=by simp[BN,Value.oneCell']
theorem aE (a b c d:Int)(w:A5):(Op.equalIn 10000 73 (.agg #[.int .i64 a,.int .i64 b]) (.agg #[.int .i64 c,.int .i64 d])).run prog w=.ok (a==c&&b==d) w:=by
 obtain⟨j,hj⟩:=QF;have h:=run_equalIn_array (P:=prog) w 9999 #[.int .i64 a,.int .i64 b] #[.int .i64 c,.int .i64 d] Gq hj;refine h.trans ?_;have e:=Gt (P:=prog) w MS (show (#[.int .i64 a,.int .i64 b]:Array A0)[0]? =some (.int .i64 a) from rfl)
 have f:=Gt (P:=prog) w MS (show (#[.int .i64 a,.int .i64 b]:Array A0)[1]? =some (.int .i64 b) from rfl);have g:=Gt (P:=prog) w MS (show (#[.int .i64 c,.int .i64 d]:Array A0)[0]? =some (.int .i64 c) from rfl);have i:=Gt (P:=prog) w MS (show (#[.int .i64 c,.int .i64 d]:Array A0)[1]? =some (.int .i64 d) from rfl)
 have k:=Gx (P:=prog) w 9998 3 .i64 .i64 a c Gv;have l:=Gx (P:=prog) w 9998 3 .i64 .i64 b d Gv;show (Op.eqItems 9999 3 (prog.cellsOf 3) _ _ [0,1]).run prog w=_;rw[Pt];simp only[Op.eqItems,Aq,Gw,e,g,k,Ao];cases hq:(a==c) with
 |false=>simp
 |true=>
  simp only[Bool.not_true,Aw,B8,Aq,f,i,l,Ao,Gr];cases hq2:(b==d) <;> simp
def IX (w:A5)(p:Option Addr)(n:Nat)(f:Nat->Int×Int):Prop:=
 n=0\/∃b o,p=some ⟨b,o,none⟩/\b<w.heap.size/\∀i,i<n->w.cell? ⟨b,o+i*2,none⟩=some (.int .i64 (f i).1)/\w.cell? ⟨b,o+i*2+1,none⟩=some (.int .i64 (f i).2)
theorem IX.mono {w e:A5}{p:Option Addr}{n:Nat}{f:Nat->Int×Int}(h:IX w p n f)(d:Below w.heap.size w e):IX e p n f:=by
 rcases h with h|⟨b,o,rfl,c,hc⟩
 ·exact .inl h
 ·refine .inr ⟨b,o,rfl,by have:=d.size;omega,fun i hi=>?_⟩;obtain⟨g,h1⟩:=hc i hi;exact⟨(G3 (a:=⟨b,o+i*2,none⟩) (d.block b c)).trans g,(G3 (a:=⟨b,o+i*2+1,none⟩) (d.block b c)).trans h1⟩
theorem XD {w:A5}{p:Option Addr}{n:Nat}{f:Nat->Int×Int}(h:IX w p n f)(hn:0<n):∃b o,p=some ⟨b,o,none⟩/\∀x,Below w.heap.size w x->∀i,i<n->x.cell? ⟨b,o+i*2,none⟩=some (.int .i64 (f i).1)/\x.cell? ⟨b,o+i*2+1,none⟩=some (.int .i64 (f i).2):=by
 rcases h with h|⟨b,o,rfl,c,hc⟩
 ·omega
 ·refine⟨b,o,rfl,fun x d i hi=>?_⟩;obtain⟨e,h1⟩:=hc i hi;exact⟨(G3 (a:=⟨b,o+i*2,none⟩) (d.block b c)).trans e,(G3 (a:=⟨b,o+i*2+1,none⟩) (d.block b c)).trans h1⟩
theorem YZ (n d:Nat)(f g:Nat->Int)(w:A5):∀is:List Nat,(∀i∈is,i<n)->(Op.eqItems (d+1) 3 (prog.cellsOf 3) (arn n f) (arn n g) is).run prog w=.ok (is.all fun i=>f i==g i) w
 |[],_=>by simp[Op.eqItems]
 |i::is,h=>by
  have hi:=h i Fa;have b:=Gt (P:=prog) w MS (X6 f hi);have c:=Gt (P:=prog) w MS (X6 g hi);have e:=Gx (P:=prog) w d 3 .i64 .i64 (f i) (g i) Gv;have a:=YZ n d f g w is fun k j=>h k (Ez _ j);rw[Pt] at a ⊢
  simp only[Op.eqItems,Aq,Gw,b,c,e,Ao,Gs];cases hq:(f i==g i) with
  |false=>simp
  |true=>simpa using a
theorem wO (f g:Nat->Int)(w:A5):(Op.equalIn 10000 74 (.agg #[.int .i64 (f 0),.int .i64 (f 1),.int .i64 (f 2),.int .i64 (f 3),.int .i64 (f 4),.int .i64 (f 5)]) (.agg #[.int .i64 (g 0),.int .i64 (g 1),.int .i64 (g 2),.int .i64 (g 3),.int .i64 (g 4),.int .i64 (g 5)])).run prog w=.ok ((List.range 6).all fun i=>f i==g i) w:=by
 obtain⟨j,hj⟩:=QF;have h:=run_equalIn_array (P:=prog) w 9999 (arn 6 f) (arn 6 g) underlying74 hj;exact h.trans (YZ 6 9998 f g w (List.range 6) fun i hi=>Bt.1 hi)
def GM (l:List (Int×Int)):List A0:=l.flatMap fun q=>[Value.int .i64 q.1,Value.int .i64 q.2]
theorem Sm (l:List (Int×Int))(q:Int×Int):GM (l++[q])=GM l++[.int .i64 q.1,.int .i64 q.2]:=by simp[GM]
theorem aO (l:List (Int×Int))(j:Nat)(h:j<l.length):(GM l)[j*2]? =some (.int .i64 l[j].1)/\(GM l)[j*2+1]? =some (.int .i64 l[j].2):=by
 induction l generalizing j with
 |nil=>exact absurd h (Gp j)
 |cons q l a=>
  have e:GM (q::l)=.int .i64 q.1 :: .int .i64 q.2::GM l:=by simp[GM]
  rw[e];cases j with
  |zero=>exact⟨rfl,rfl⟩
  |succ j=>
   rw[show (j+1)*2=j*2+1+1 by omega,show j*2+1+1+1=(j*2+1)+1+1 by omega,Gu,Gu,Gu,Gu];exact a j (by simpa using h)
theorem Tg {w:A5}{base e:Nat}{v:A0}{l:List (Int×Int)}{n:Nat}(hl:l.length=n)(h:w.ownsRow base e 2 v n (GM l)):
  ∃(q:Option Addr) (cap:Nat),v=.slice q n cap/\IX w q n (fun i=>l.getD i (0,0)):=by
 subst hl;have a:=h;rcases h.2 with ⟨rfl,h1⟩|⟨g,cap,d,rfl,_,f,_⟩
 ·exact⟨none,0,by rw[h1],.inl h1⟩
 ·refine⟨_,cap,rfl,.inr ⟨g,0,rfl,(Am.1 f).1,fun i hi=>?_⟩⟩;have e:l.getD i (0,0)=l[i]:=by simp[List.getD,hi]
  have b:=Ge (g:=g) a rfl (i*2) _ (aO l i hi).1;have c:=Ge (g:=g) a rfl (i*2+1) _ (aO l i hi).2;rw[Gc] at b c;show w.cell? ⟨g,0+i*2,none⟩=some (.int .i64 (l.getD i (0,0)).1)/\w.cell? ⟨g,0+i*2+1,none⟩=some (.int .i64 (l.getD i (0,0)).2);rw[e];exact⟨b,c⟩
theorem sL {P:A3}{w:A5}{ops:Array A4}{rest:List A4}{o:A4}{a:Act}{Q:Exit->Act->A5->Prop}{sl x:Operand}{t base e c:Nat}{i:TypeInfo}{z v:A0}{n:Nat}{l:List A0}{K:Nat}{y0 y1:Int}
  (m:o.guard=none)(ho:o.op=.call {callee:=.builtin .append,args:=#[sl,x],argTypes:=#[t,t]})
  (ht:P.underlying t=some (.slice e))(hi:P.info? e=some i)(s:i.zero=some z)(p:z.cells.size=2)(b:i.size=2)(q:i.bytes=16)
  (hs:a.eval sl=v)(f:w.ownsRow base e 2 v n l)(y:a.eval x=.slice (some ⟨K,0,none⟩) 1 c)(A:w.cell? ⟨K,0,none⟩=some (.int .i64 y0))(c1:w.cell? ⟨K,1,none⟩=some (.int .i64 y1))(hn:n<=1048576)(d:base<=w.heap.size)
  (h:∀k g,g.ownsRow base e 2 k (n+1) (l++[.int .i64 y0,.int .i64 y1])->w.grownBy g v.ownBlock->wpList P ops Q rest (a.put o.dst k) g):wpList P ops Q (o::rest) a w:=
 wpList_append_own w m sl x t ho base e i z 2 16 ht hi s b q p (by decide) v n l hs f ⟨K,0,none⟩ 1 c [.int .i64 y0,.int .i64 y1] y rfl
  (fun j u hj=>by
   match j,hj with
   |0,hj=>cases hj;exact A
   |1,hj=>cases hj;exact c1)
  (by intro u r;simp only[Ei,Ej,Eo] at r;rcases r with rfl|rfl <;> rfl) (by unfold maxLen;omega) (by omega) d
  fun k g h1 h2 _=>h k g h1 h2
theorem UJ:∃i,prog.info? 73=some i/\i.zero=some (.agg #[.int .i64 0,.int .i64 0])/\i.size=2/\i.bytes=16:=by
 have h:(prog.info? 73).map (fun i=>(i.zero,i.size,i.bytes))=some (some (.agg #[.int .i64 0,.int .i64 0]),2,16):=by kernel_rfl
 cases hq:prog.info? 73 with
 |none=>simp[hq] at h
 |some i=>
  simp[hq] at h;exact⟨i,rfl,h.1,h.2.1,h.2.2⟩
end
end Go.Proofs.YtjjmalchelniiaaGreatDoor
