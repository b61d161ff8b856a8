/- No condition. -/
import Derived.RegionTactic
import Derived.KernelRfl
import Derived.StillTailTactics
import Derived.Deep.MidRow
import Derived.Laws.CopyRow
import Derived.Below
import Derived.Laws.AppendOwn
import Derived.OwnWalk
import Derived.Laws.ResultCell
import Derived.Laws.Rows
namespace Go.Proofs.YtnamlooifcpoaaaGreatDoor
open Go.RowKit
theorem Ybx {P:Program}{md:Region.Mode}{ops:Array Oper}{Q:Exit→Act→World→Prop}(i:Nat){oi:Oper}(d:Option Tmp){v:Value}{fuel:Nat}{listed:Array Bool}{a:Act}{w:World}(hi:ops[i]? =some oi)(hd:oi.dst=d)
  (hs:Region.noSelect ops=true)(hf:Region.free md ops listed i=true)(hr:(Region.ready md ops listed).contains i=true)
  (hQ:∀c a w,Q (.panic c) (a.put d v) w→Q (.panic c) a w)(hy:Yields P ops oi v a)
  (h:wpAny P md ops Q fuel (listed.setIfInBounds i true) (a.put d v) w):wpAny P md ops Q (fuel+1) listed a w:=by
 subst hd;exact wpAny_take hi hs hf hr hQ hy h
theorem Yjw {P:Program}{md:Region.Mode}{ops:Array Oper}{Q:Exit→Act→World→Prop}{i j:Nat}{oi oj:Oper}{di dj:Option Tmp}{vi vj:Value}{fuel:Nat}{listed:Array Bool}{a:Act}{w:World}
  (hi:ops[i]? =some oi)(hj:ops[j]? =some oj)(gi:oi.guard=none)(gj:oj.guard=none)(ei:oi.dst=di)(ej:oj.dst=dj)
  (hr:Region.ready md ops listed=[i,j])(hri:Region.ready md ops (listed.setIfInBounds i true)=[j])(hrj:Region.ready md ops (listed.setIfInBounds j true)=[i])(hne:i≠j)
  (h1:(execOp a.eval oi).run P w=.ok (.value vi) w)(h2:(execOp (a.put di vi).eval oj).run P w=.ok (.value vj) w)
  (h3:(execOp a.eval oj).run P w=.ok (.value vj) w)(h4:(execOp (a.put dj vj).eval oi).run P w=.ok (.value vi) w)
  (hc:(a.put dj vj).put di vi=(a.put di vi).put dj vj)
  (h:wpAny P md ops Q fuel ((listed.setIfInBounds i true).setIfInBounds j true) ((a.put di vi).put dj vj) w):wpAny P md ops Q (fuel+2) listed a w:=by
 subst ei ej;have step:∀{k:Nat} {o:Oper} {v:Value} {b:Act} {K:Act→World→Prop},ops[k]? =some o→o.guard=none→(execOp b.eval o).run P w=.ok (.value v) w→K (b.put o.dst v) w→wpOp P ops Q k K b w:=by
  intro k o v b K ho hg hv hK;unfold wpOp;simp only[ho];rw[if_pos (by simp[Region.wanted,hg])]
  left
  unfold Oper.wp;rw[hv];exact hK
 refine wpAny_all hr (by simp) fun k hk=>?_;simp only[List.mem_cons,List.not_mem_nil,or_false] at hk;rcases hk with rfl|rfl
 ·refine step hi gi h1 (wpAny_all hri (by simp) fun k' hk'=>?_);obtain rfl:k'=j:=by simpa using hk'
  exact step hj gj h2 h
 ·refine step hj gj h3 (wpAny_all hrj (by simp) fun k' hk'=>?_);obtain rfl:k'=i:=by simpa using hk'
  refine step hi gi h4 ?_;rw[hc,Array.setIfInBounds_comm _ _ hne.symm];exact h
theorem Yew {P:Program}{md:Region.Mode}{ops:Array Oper}{Q:Exit→Act→World→Prop}(k:Nat){n:Nat}{listed:Array Bool}{a:Act}{w:World}
  (hn:(ops.toList.drop k).length=n)(hB:Region.seqB md ops n k listed=true)(h:wpList P ops Q (ops.toList.drop k) a w):wpAny P md ops Q n listed a w:=by
 subst hn;exact wpAny_of_seq _ k listed a w (fun j=>by simp[List.getElem?_drop]) hB h
theorem Ya8 {P:Program}{w:World}{ev:Operand→Value}{o:Oper}{ty:TypeId}{x:Operand}{v:Value}{ad:Addr}(ho:o.op=.load ty x)(hx:ev x=.pointer (some ad))(h:(loadVar ty ad).run P w=.ok v w):
  (execOp ev o).run P w=.ok (.value v) w:=by
 unfold execOp;simp only[ho,hx,Instr.loadAt,Instr.sureAddr,Sem.run_bind,Sem.run_pure,Result.andThen_ok,h]
theorem Yac {w:World}{b o:Nat}{cs:List Value}{T:TypeId}{x:Value}(h:w.heap[b]? =some (.cells cs.toArray T (0,0)))(hx:cs[o]? =some x):w.cell? ⟨b,o,none⟩=some x:=by
 rw[cell_of_row w b o _ _ _ h];simpa using hx
theorem Ya9 {w:World}{b o:Nat}{cs:List Value}{T:TypeId}(h:w.heap[b]? =some (.cells cs.toArray T (0,0))):w.frozen? ⟨b,o,none⟩=false:=frozen_of_row w b o _ T h
theorem Ycq {w:World}{b o:Nat}{cs:List Value}{T:TypeId}(x:Value)(h:w.heap[b]? =some (.cells cs.toArray T (0,0))):(w.setCell ⟨b,o,none⟩ x).heap[b]? =some (.cells (cs.set o x).toArray T (0,0)):=by
 rw[heap_setCell_same w b o _ T x h];simp
theorem Yag {a b c:World}{row:Option Nat}(h:a.grownBy b row)(k:b.grownBy c row):a.grownBy c row:=
 ⟨k.os.trans h.os,k.tape.trans h.tape,k.output.trans h.output,Nat.le_trans h.size k.size,fun i hi hr=>(k.block i (Nat.lt_of_lt_of_le hi h.size) hr).trans (h.block i hi hr)⟩
theorem Ya2 (w:World)(a:Addr)(v:Value):w.grownBy (w.setCell a v) (some a.block):=
 ⟨rfl,rfl,rfl,by simp[World.setCell],fun k _ hk=>heap_setCell_other w a k v (by intro e;exact hk (by rw[e]))⟩
theorem Ygm (w:World)(row:Option Nat):w.grownBy w.drew row:=⟨rfl,rfl,rfl,Nat.le_refl _,fun _ _ _=>rfl⟩
theorem Yb1 {P:Program}{ops:Array Oper}{rest:List Oper}{op:Oper}{a:Act}{w:World}{Q:Exit→Act→World→Prop}(hgd:op.guard=none)(ty:TypeId)(x y:Operand)(ho:op.op=.store ty x y)
  (b o:Nat)(Z:Array Value)(hx:a.eval x=.pointer (some ⟨b,o,none⟩))(hy:a.eval y=.agg Z)(cur:Array Value)(T:TypeId)(hg:w.heap[b]? =some (.cells cur T (0,0)))
  (hi:(P.info? ty).map (·.size)=some Z.size)(h1:∀v∈Z.toList,v.oneCell'=true)(hfit:o+Z.size≤cur.size)
  (h:∀w',Hid (w'.heap[b]? =some (.cells (cur.toList.take o++(Z.toList++cur.toList.drop (o+Z.size))).toArray T (0,0)))→w.grownBy w' (some b)→wpList P ops Q rest (a.put op.dst undef) w'):wpList P ops Q (op::rest) a w:=by
 refine wpList_plain hgd fun K hK=>?_;have hrun:=run_storeCells_at (P:=P) b o T Z.toList 0 cur w hg (by simpa using hfit) h1;have hst:(storeVar ty ⟨b,o,none⟩ (.agg Z)).run P w=.ok () (w.setRow b (cur.toList.take o++(Z.toList++cur.toList.drop (o+Z.size))).toArray):=by
  cases hq:P.info? ty with
  |none=>simp[hq] at hi
  |some i=>
   have hs:i.size=Z.size:=by simpa [hq] using hi
   simp only[Nat.add_zero,Array.length_toList] at hrun;simp[storeVar,sizeOf,typeInfo,hq,Value.cells,hs,hrun]
 unfold Oper.wp execOp;simp only[ho,hx,hy,Instr.storeAt,Instr.sureAddr,Sem.run_bind,Sem.run_pure,Result.andThen_ok,hst];exact hK _ _ (h _ (show _=_ from setRow_heap w b _ _ T _ hg) ⟨rfl,rfl,rfl,by simp,fun k _ hk=>setRow_other w b k _ (by intro e;exact hk (by rw[e]))⟩)
theorem Yao {w x:World}(h:Below w.heap.size w x)(row:Option Nat):w.grownBy x row:=⟨h.os,h.tape,h.output,h.size,fun k hk _=>h.block k hk⟩
theorem Yqb {w:World}{base e size n:Nat}{v:Value}{xs:List Value}(h:w.ownsRow base e size v n xs):∀k,v.ownBlock=some k→base≤k:=by
 intro k hk;rcases h.2 with ⟨rfl,_⟩|⟨g,cap,cur,rfl,hg,_⟩
 ·cases hk
 ·cases hk;exact hg
theorem Yak {P:Program}{fn:Func}{p u:Tmp}{ty:TypeId}(h:fn.results=#[.cell p ty,.tmp u])(tmps:Array Value)(w:World)(g:Nat)(t:TypeId)(cs:Array Value)(fr:Nat×Nat)(d:TypeDesc)
  (hp:tmps.getD p undef=.pointer (some ⟨g,0,none⟩))(hg:w.heap[g]? =some (.cells cs t fr))
  (hu:P.underlying ty=some d)(hd:(match d with|.struct _|.array _ _=>true|_=>false)=true)(hi:(P.info? ty).map (·.size)=some cs.size):
  (results fn tmps).run P w=.ok (.tuple #[.agg cs,tmps.getD u undef]) w:=by
 rw[results_cell_tmp h,hp];simp[asAddr,Result.andThen,run_loadVar_row w g t ty cs fr d hg hu hd hi]
theorem Yba {x:World}{B:Nat}{a:Addr}{v:Value}{o:Obj}(h:x.heap[B]? =some o)(hne:B≠a.block):(x.setCell a v).heap[B]? =some o:=
 ((Ya2 x a v).block B (Array.getElem?_eq_some_iff.1 h).1 (by simpa using hne)).trans h
theorem Yaq {x:World}{B:Nat}{o ob:Obj}(h:x.heap[B]? =some o):(x.alloc ob).heap[B]? =some o:=
 (((Below.refl _ x).alloc (Nat.le_refl _) ob).block B (Array.getElem?_eq_some_iff.1 h).1).trans h
end Go.Proofs.YtnamlooifcpoaaaGreatDoor