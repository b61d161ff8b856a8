/- StripsChecks, 5. No condition. -/
import Derived.RegionTactic
import Derived.StillTailTactics
import Derived.Deep.MidRow
import Derived.Below
import Derived.OwnWalk
import Derived.Laws.ResultCell
open Go renaming Program->A3,Oper->A4,World->A5,Value->A0,Operand->A8,TypeId->A7
namespace Go.Proofs.YtjjmalchelniiaaGreatDoor
open Go.RowKit
abbrev Dw:=@Below.refl
abbrev Dx:=@Nat.le_refl
abbrev Dy:=@Array.getElem?_eq_some_iff
abbrev Dz:=@if_pos
abbrev E9:=@Nat.lt_of_lt_of_le
abbrev Ea:=@Nat.le_trans
abbrev Eb:=@List.mem_cons
abbrev Ed:=@List.not_mem_nil
abbrev Ee:=@Result.andThen_ok
abbrev Ef:=@List.getElem?_drop
abbrev Eg:=@Sem.run_bind
abbrev Ei:=@run_loadVar_row
abbrev Ej:=@wpAny_take
abbrev Ek:=@or_false
abbrev El:=@Sem.run_pure
abbrev Em:=@setRow_other
abbrev En:=@setRow_heap
abbrev Eo:=@Nat.add_zero
abbrev Ep:=@Array.length_toList
abbrev Er:=@frozen_of_row
abbrev Es:=@wpList_plain
theorem E0 {P:A3}{md:Region.Mode}{ops:Array A4}{Q:Exit->Act->A5->Prop}(i:Nat){f:A4}(d:Option Tmp){v:A0}{e:Nat}{b:Array Bool}{a:Act}{w:A5}(hi:ops[i]? =some f)(hd:f.dst=d)
  (hs:Region.noSelect ops=true)(g:Region.free md ops b i=true)(hr:(Region.ready md ops b).contains i=true)
  (j:∀c a w,Q (.panic c) (a.put d v) w->Q (.panic c) a w)(k:Yields P ops f v a)
  (h:wpAny P md ops Q e (b.setIfInBounds i true) (a.put d v) w):wpAny P md ops Q (e+1) b a w:=by
 subst hd;exact Ej hi hs g hr j k h
theorem Wy {P:A3}{md:Region.Mode}{ops:Array A4}{Q:Exit->Act->A5->Prop}{i j:Nat}{f g:A4}{di dj:Option Tmp}{vi vj:A0}{d:Nat}{c:Array Bool}{a:Act}{w:A5}
  (hi:ops[i]? =some f)(hj:ops[j]? =some g)(q:f.guard=none)(r:g.guard=none)(t:f.dst=di)(u:g.dst=dj)
  (hr:Region.ready md ops c=[i,j])(l:Region.ready md ops (c.setIfInBounds i true)=[j])(m:Region.ready md ops (c.setIfInBounds j true)=[i])(n:i≠j)
  (h1:(execOp a.eval f).run P w=.ok (.value vi) w)(h2:(execOp (a.put di vi).eval g).run P w=.ok (.value vj) w)
  (h3:(execOp a.eval g).run P w=.ok (.value vj) w)(h4:(execOp (a.put dj vj).eval f).run P w=.ok (.value vi) w)
  (hc:(a.put dj vj).put di vi=(a.put di vi).put dj vj)
  (h:wpAny P md ops Q d ((c.setIfInBounds i true).setIfInBounds j true) ((a.put di vi).put dj vj) w):wpAny P md ops Q (d+2) c a w:=by
 subst t u;have step:∀{k:Nat} {o:A4} {v:A0} {b:Act} {K:Act->A5->Prop},ops[k]? =some o->o.guard=none->(execOp b.eval o).run P w=.ok (.value v) w->K (b.put o.dst v) w->wpOp P ops Q k K b w:=by
  intro k o v b K ho x hv y;unfold wpOp;simp only[ho];rw[Dz (by simp[Region.wanted,x])]
  left
  unfold Oper.wp;rw[hv];exact y
 refine wpAny_all hr (by simp) fun k s=>?_;simp only[Eb,Ed,Ek] at s;rcases s with rfl|rfl
 ·refine step hi q h1 (wpAny_all l (by simp) fun p e=>?_);obtain rfl:p=j:=by simpa using e
  exact step hj r h2 h
 ·refine step hj r h3 (wpAny_all m (by simp) fun p e=>?_);obtain rfl:p=i:=by simpa using e
  refine step hi q h4 ?_;rw[hc,Array.setIfInBounds_comm _ _ n.symm];exact h
theorem Qc {P:A3}{md:Region.Mode}{ops:Array A4}{Q:Exit->Act->A5->Prop}(k:Nat){n:Nat}{b:Array Bool}{a:Act}{w:A5}
  (hn:(ops.toList.drop k).length=n)(c:Region.seqB md ops n k b=true)(h:wpList P ops Q (ops.toList.drop k) a w):wpAny P md ops Q n b a w:=by
 subst hn;exact wpAny_of_seq _ k b a w (fun j=>by simp[List.getElem?_drop]) c h
theorem FU {P:A3}{w:A5}{ev:A8->A0}{o:A4}{ty:A7}{x:A8}{v:A0}{ad:Addr}(ho:o.op=.load ty x)(a:ev x=.pointer (some ad))(h:(loadVar ty ad).run P w=.ok v w):
  (execOp ev o).run P w=.ok (.value v) w:=by
 unfold execOp;simp only[ho,a,Instr.loadAt,Instr.sureAddr,Eg,El,Ee,h]
theorem A2 {w:A5}{b o:Nat}{cs:List A0}{T:A7}{x:A0}(h:w.heap[b]? =some (.cells cs.toArray T (0,0)))(a:cs[o]? =some x):w.cell? ⟨b,o,none⟩=some x:=by
 rw[cell_of_row w b o _ _ _ h];simpa using a
theorem AW {w:A5}{b o:Nat}{cs:List A0}{T:A7}(h:w.heap[b]? =some (.cells cs.toArray T (0,0))):w.frozen? ⟨b,o,none⟩=false:=Er w b o _ T h
theorem B3 {w:A5}{b o:Nat}{cs:List A0}{T:A7}(x:A0)(h:w.heap[b]? =some (.cells cs.toArray T (0,0))):(w.setCell ⟨b,o,none⟩ x).heap[b]? =some (.cells (cs.set o x).toArray T (0,0)):=by
 rw[heap_setCell_same w b o _ T x h];simp
theorem AO {a b c:A5}{row:Option Nat}(h:a.grownBy b row)(k:b.grownBy c row):a.grownBy c row:=
 ⟨k.os.trans h.os,k.tape.trans h.tape,k.output.trans h.output,Ea h.size k.size,fun i hi hr=>(k.block i (E9 hi h.size) hr).trans (h.block i hi hr)⟩
theorem DC (w:A5)(a:Addr)(v:A0):w.grownBy (w.setCell a v) (some a.block):=
 ⟨rfl,rfl,rfl,by simp[World.setCell],fun k _ b=>heap_setCell_other w a k v (by intro e;exact b (by rw[e]))⟩
theorem JX (w:A5)(row:Option Nat):w.grownBy w.drew row:=⟨rfl,rfl,rfl,Dx _,fun _ _ _=>rfl⟩
theorem UE {P:A3}{ops:Array A4}{rest:List A4}{op:A4}{a:Act}{w:A5}{Q:Exit->Act->A5->Prop}(f:op.guard=none)(ty:A7)(x y:A8)(ho:op.op=.store ty x y)
  (b o:Nat)(Z:Array A0)(m:a.eval x=.pointer (some ⟨b,o,none⟩))(n:a.eval y=.agg Z)(c:Array A0)(T:A7)(l:w.heap[b]? =some (.cells c T (0,0)))
  (hi:(P.info? ty).map (·.size)=some Z.size)(h1:∀v∈Z.toList,v.oneCell'=true)(hfit:o+Z.size<=c.size)
  (h:∀g,Hid (g.heap[b]? =some (.cells (c.toList.take o++(Z.toList++c.toList.drop (o+Z.size))).toArray T (0,0)))->w.grownBy g (some b)->wpList P ops Q rest (a.put op.dst undef) g):wpList P ops Q (op::rest) a w:=by
 refine Es f fun K p=>?_;have d:=run_storeCells_at (P:=P) b o T Z.toList 0 c w l (by simpa using hfit) h1;have j:(storeVar ty ⟨b,o,none⟩ (.agg Z)).run P w=.ok () (w.setRow b (c.toList.take o++(Z.toList++c.toList.drop (o+Z.size))).toArray):=by
  cases hq:P.info? ty with
  |none=>simp[hq] at hi
  |some i=>
   have hs:i.size=Z.size:=by simpa [hq] using hi
   simp only[Eo,Ep] at d;simp[storeVar,sizeOf,typeInfo,hq,Value.cells,hs,d]
 unfold Oper.wp execOp;simp only[ho,m,n,Instr.storeAt,Instr.sureAddr,Eg,El,Ee,j];exact p _ _ (h _ (show _=_ from En w b _ _ T _ l) ⟨rfl,rfl,rfl,by simp,fun k _ q=>Em w b k _ (by intro e;exact q (by rw[e]))⟩)
theorem BR {w x:A5}(h:Below w.heap.size w x)(row:Option Nat):w.grownBy x row:=⟨h.os,h.tape,h.output,h.size,fun k a _=>h.block k a⟩
theorem Oz {w:A5}{base e size n:Nat}{v:A0}{b:List A0}(h:w.ownsRow base e size v n b):∀k,v.ownBlock=some k->base<=k:=by
 intro k a;rcases h.2 with ⟨rfl,_⟩|⟨g,cap,c,rfl,d,_⟩
 ·cases a
 ·cases a;exact d
theorem BF {P:A3}{a:Func}{p u:Tmp}{ty:A7}(h:a.results=#[.cell p ty,.tmp u])(tmps:Array A0)(w:A5)(g:Nat)(t:A7)(cs:Array A0)(b:Nat×Nat)(d:TypeDesc)
  (c:tmps.getD p undef=.pointer (some ⟨g,0,none⟩))(e:w.heap[g]? =some (.cells cs t b))
  (f:P.underlying ty=some d)(hd:(match d with|.struct _|.array _ _=>true|_=>false)=true)(hi:(P.info? ty).map (·.size)=some cs.size):
  (results a tmps).run P w=.ok (.tuple #[.agg cs,tmps.getD u undef]) w:=by
 rw[results_cell_tmp h,c];simp[asAddr,Result.andThen,run_loadVar_row w g t ty cs b d e f hd hi]
theorem OX {P:A3}{b:Func}{p u v:Tmp}{ty:A7}(h:b.results=#[.cell p ty,.tmp u,.tmp v])(tmps:Array A0)(w:A5)(g:Nat)(t:A7)(cs:Array A0)(c:Nat×Nat)(d:TypeDesc)
  (e:tmps.getD p undef=.pointer (some ⟨g,0,none⟩))(f:w.heap[g]? =some (.cells cs t c))
  (i:P.underlying ty=some d)(hd:(match d with|.struct _|.array _ _=>true|_=>false)=true)(hi:(P.info? ty).map (·.size)=some cs.size):
  (results b tmps).run P w=.ok (.tuple #[.agg cs,tmps.getD u undef,tmps.getD v undef]) w:=by
 have a:tmps[p]?.getD undef=.pointer (some ⟨g,0,none⟩):=by simpa using e
 simp[results,h,a,asAddr,Result.andThen,run_loadVar_row w g t ty cs c d f i hd hi]
theorem FQ {w x:A5}{row:Option Nat}{a:Addr}{v:A0}(h:w.grownBy x row)(c:w.heap.size<=a.block):w.grownBy (x.setCell a v) row:=by
 have g:=DC x a v;refine⟨g.os.trans h.os,g.tape.trans h.tape,g.output.trans h.output,Ea h.size g.size,fun k b hn=>?_⟩;exact(g.block k (E9 b h.size) (by intro e;injection e with e;omega)).trans (h.block k b hn)
theorem OG {x:A5}{B:Nat}{a:Addr}{v:A0}{o:Obj}(h:x.heap[B]? =some o)(b:B≠a.block):(x.setCell a v).heap[B]? =some o:=
 ((DC x a v).block B (Dy.1 h).1 (by simpa using b)).trans h
theorem CH {x:A5}{B:Nat}{o ob:Obj}(h:x.heap[B]? =some o):(x.alloc ob).heap[B]? =some o:=
 (((Dw _ x).alloc (Dx _) ob).block B (Dy.1 h).1).trans h
end Go.Proofs.YtjjmalchelniiaaGreatDoor