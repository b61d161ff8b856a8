/- No condition. -/
import Derived.RegionTactic
import Derived.StillTailTactics
import Derived.Deep.MidRow
import Derived.Below
import Derived.OwnWalk
import Derived.Laws.ResultCell
open Go renaming Program->A3,Oper->A4,World->A5,Value->A0,Operand->A8,TypeId->A7,HeadInv->A6
namespace Go.Proofs.YtjjmalchelniiaaGreatDoor
open Go.RowKit
theorem tT{p:Prop}(h:p:=by simp;omega):p:=h
theorem tU{p:Prop}(h:p:=by simp):p:=h
theorem tV{p:Prop}(h:p:=by intro e;injection e with e;omega):p:=h
theorem tW{p:Prop}(h:p:=by simpa using hi):p:=h
theorem tX{p:Prop}(h:p:=by intro e;exact hk (by rw[e])):p:=h
theorem tY{p:Prop}(h:p:=by simp[World.setCell]):p:=h
theorem tZ{p:Prop}(h:p:=by rw[c];omega):p:=h
abbrev Dz:=@Nat.le_refl
abbrev E9:=@Array.getElem?_eq_some_iff
abbrev Ea:=@Below.refl
abbrev Eb:=@if_pos
abbrev Ed:=@Nat.lt_of_lt_of_le
abbrev Ee:=@List.mem_cons
abbrev Ef:=@Nat.le_trans
abbrev Eg:=@List.not_mem_nil
abbrev Ei:=@List.getElem?_drop
abbrev Ej:=@Result.andThen_ok
abbrev Ek:=@run_loadVar_row
abbrev El:=@Nat.add_zero
abbrev Em:=@Sem.run_bind
abbrev En:=@setRow_other
abbrev Eo:=@wpAny_take
abbrev Ep:=@or_false
abbrev Er:=@List.getElem?_take
abbrev Es:=@setRow_heap
abbrev Et:=@Sem.run_pure
abbrev Eu:=@Array.length_toList
abbrev Ew:=@frozen_of_row
abbrev Ex:=@wpList_plain
theorem AW {P:A3}{md:Region.Mode}{ops:Array A4}{Q:Exit->Act->A5->Prop}(i:Nat){f:A4}(d:Option Tmp){v:A0}{e:Nat}{b:Array Bool}{a:Act}{w:A5}(hi:ops[i]? =some f)(hd:f.dst=d)
  (hs:Region.noSelect ops=true)(g:Region.free md ops b i=true)(hr:(Region.ready md ops b).contains i=true)
  (j:∀c a w,Q (.panic c) (a.put d v) w->Q (.panic c) a w)(k:Yields P ops f v a)
  (h:wpAny P md ops Q e (b.setIfInBounds i true) (a.put d v) w):wpAny P md ops Q (e+1) b a w:=by
 subst hd;exact Eo hi hs g hr j k h
theorem aN {P:A3}{md:Region.Mode}{ops:Array A4}{Q:Exit->Act->A5->Prop}{i j:Nat}{f g:A4}{di dj:Option Tmp}{vi vj:A0}{d:Nat}{c:Array Bool}{a:Act}{w:A5}
  (hi:ops[i]? =some f)(hj:ops[j]? =some g)(q:f.guard=none)(r:g.guard=none)(s:f.dst=di)(t:g.dst=dj)
  (hr:Region.ready md ops c=[i,j])(l:Region.ready md ops (c.setIfInBounds i true)=[j])(m:Region.ready md ops (c.setIfInBounds j true)=[i])(n:i≠j)
  (h1:(execOp a.eval f).run P w=.ok (.value vi) w)(h2:(execOp (a.put di vi).eval g).run P w=.ok (.value vj) w)
  (h3:(execOp a.eval g).run P w=.ok (.value vj) w)(h4:(execOp (a.put dj vj).eval f).run P w=.ok (.value vi) w)
  (hc:(a.put dj vj).put di vi=(a.put di vi).put dj vj)
  (h:wpAny P md ops Q d ((c.setIfInBounds i true).setIfInBounds j true) ((a.put di vi).put dj vj) w):wpAny P md ops Q (d+2) c a w:=by
 subst s t;have step:∀{k:Nat} {o:A4} {v:A0} {b:Act} {K:Act->A5->Prop},ops[k]? =some o->o.guard=none->(execOp b.eval o).run P w=.ok (.value v) w->K (b.put o.dst v) w->wpOp P ops Q k K b w:=by
  intro k o v b K ho hg hv u;unfold wpOp;simp only[ho];rw[Eb (by simp[Region.wanted,hg])]
  left
  unfold Oper.wp;rw[hv];exact u
 refine wpAny_all hr tU fun k hk=>?_;simp only[Ee,Eg,Ep] at hk;rcases hk with rfl|rfl
 ·refine step hi q h1 (wpAny_all l tU fun p e=>?_);obtain rfl:p=j:=by simpa using e
  exact step hj r h2 h
 ·refine step hj r h3 (wpAny_all m tU fun p e=>?_);obtain rfl:p=i:=by simpa using e
  refine step hi q h4 ?_;rw[hc,Array.setIfInBounds_comm _ _ n.symm];exact h
theorem RI {P:A3}{md:Region.Mode}{ops:Array A4}{Q:Exit->Act->A5->Prop}(k:Nat){n:Nat}{b:Array Bool}{a:Act}{w:A5}
  (hn:(ops.toList.drop k).length=n)(c:Region.seqB md ops n k b=true)(h:wpList P ops Q (ops.toList.drop k) a w):wpAny P md ops Q n b a w:=by
 subst hn;exact wpAny_of_seq _ k b a w (fun j=>by simp[List.getElem?_drop]) c h
theorem FW {P:A3}{w:A5}{ev:A8->A0}{o:A4}{ty:A7}{x:A8}{v:A0}{ad:Addr}(ho:o.op=.load ty x)(a:ev x=.pointer (some ad))(h:(loadVar ty ad).run P w=.ok v w):
  (execOp ev o).run P w=.ok (.value v) w:=by
 unfold execOp;simp only[ho,a,Instr.loadAt,Instr.sureAddr,Em,Et,Ej,h]
theorem AA {w:A5}{b o:Nat}{cs:List A0}{T:A7}{x:A0}(h:w.heap[b]? =some (.cells cs.toArray T (0,0)))(a:cs[o]? =some x):w.cell? ⟨b,o,none⟩=some x:=by
 rw[cell_of_row w b o _ _ _ h];simpa using a
theorem AL {w:A5}{b o:Nat}{cs:List A0}{T:A7}(h:w.heap[b]? =some (.cells cs.toArray T (0,0))):w.frozen? ⟨b,o,none⟩=false:=Ew w b o _ T h
theorem B3 {w:A5}{b o:Nat}{cs:List A0}{T:A7}(x:A0)(h:w.heap[b]? =some (.cells cs.toArray T (0,0))):(w.setCell ⟨b,o,none⟩ x).heap[b]? =some (.cells (cs.set o x).toArray T (0,0)):=by
 rw[heap_setCell_same w b o _ T x h];simp
theorem AP {a b c:A5}{row:Option Nat}(h:a.grownBy b row)(k:b.grownBy c row):a.grownBy c row:=
 ⟨k.os.trans h.os,k.tape.trans h.tape,k.output.trans h.output,Ef h.size k.size,fun i hi hr=>(k.block i (Ed hi h.size) hr).trans (h.block i hi hr)⟩
theorem D3 (w:A5)(a:Addr)(v:A0):w.grownBy (w.setCell a v) (some a.block):=
 ⟨rfl,rfl,rfl,tY,fun k _ hk=>heap_setCell_other w a k v tX⟩
theorem KU (w:A5)(row:Option Nat):w.grownBy w.drew row:=⟨rfl,rfl,rfl,Dz _,fun _ _ _=>rfl⟩
theorem YG {P:A3}{ops:Array A4}{rest:List A4}{op:A4}{a:Act}{w:A5}{Q:Exit->Act->A5->Prop}(f:op.guard=none)(ty:A7)(x y:A8)(ho:op.op=.store ty x y)
  (b o:Nat)(Z:Array A0)(l:a.eval x=.pointer (some ⟨b,o,none⟩))(m:a.eval y=.agg Z)(c:Array A0)(T:A7)(hg:w.heap[b]? =some (.cells c T (0,0)))
  (hi:(P.info? ty).map (·.size)=some Z.size)(h1:∀v∈Z.toList,v.oneCell'=true)(hfit:o+Z.size<=c.size)
  (h:∀g,Hid (g.heap[b]? =some (.cells (c.toList.take o++(Z.toList++c.toList.drop (o+Z.size))).toArray T (0,0)))->w.grownBy g (some b)->wpList P ops Q rest (a.put op.dst undef) g):wpList P ops Q (op::rest) a w:=by
 refine Ex f fun K n=>?_;have d:=run_storeCells_at (P:=P) b o T Z.toList 0 c w hg (by simpa using hfit) h1;have j:(storeVar ty ⟨b,o,none⟩ (.agg Z)).run P w=.ok () (w.setRow b (c.toList.take o++(Z.toList++c.toList.drop (o+Z.size))).toArray):=by
  cases hq:P.info? ty with
  |none=>simp[hq] at hi
  |some i=>
   have hs:i.size=Z.size:=by simpa [hq] using hi
   simp only[El,Eu] at d;simp[storeVar,sizeOf,typeInfo,hq,Value.cells,hs,d]
 unfold Oper.wp execOp;simp only[ho,l,m,Instr.storeAt,Instr.sureAddr,Em,Et,Ej,j];exact n _ _ (h _ (show _=_ from Es w b _ _ T _ hg) ⟨rfl,rfl,rfl,tU,fun k _ hk=>En w b k _ tX⟩)
theorem BF {w x:A5}(h:Below w.heap.size w x)(row:Option Nat):w.grownBy x row:=⟨h.os,h.tape,h.output,h.size,fun k hk _=>h.block k hk⟩
theorem FT {w:A5}{base e size n:Nat}{v:A0}{a:List A0}(h:w.ownsRow base e size v n a):∀k,v.ownBlock=some k->base<=k:=by
 intro k hk;rcases h.2 with ⟨rfl,_⟩|⟨g,cap,b,rfl,hg,_⟩
 ·cases hk
 ·cases hk;exact hg
theorem C0 {P:A3}{a:Func}{p u:Tmp}{ty:A7}(h:a.results=#[.cell p ty,.tmp u])(tmps:Array A0)(w:A5)(g:Nat)(t:A7)(cs:Array A0)(b:Nat×Nat)(d:TypeDesc)
  (c:tmps.getD p undef=.pointer (some ⟨g,0,none⟩))(hg:w.heap[g]? =some (.cells cs t b))
  (e:P.underlying ty=some d)(hd:(match d with|.struct _|.array _ _=>true|_=>false)=true)(hi:(P.info? ty).map (·.size)=some cs.size):
  (results a tmps).run P w=.ok (.tuple #[.agg cs,tmps.getD u undef]) w:=by
 rw[results_cell_tmp h,c];simp[asAddr,Result.andThen,run_loadVar_row w g t ty cs b d hg e hd hi]
theorem B0 {P:A3}{b:Func}{p u v:Tmp}{ty:A7}(h:b.results=#[.cell p ty,.tmp u,.tmp v])(tmps:Array A0)(w:A5)(g:Nat)(t:A7)(cs:Array A0)(c:Nat×Nat)(d:TypeDesc)
  (e:tmps.getD p undef=.pointer (some ⟨g,0,none⟩))(hg:w.heap[g]? =some (.cells cs t c))
  (f:P.underlying ty=some d)(hd:(match d with|.struct _|.array _ _=>true|_=>false)=true)(hi:(P.info? ty).map (·.size)=some cs.size):
  (results b tmps).run P w=.ok (.tuple #[.agg cs,tmps.getD u undef,tmps.getD v undef]) w:=by
 have a:tmps[p]?.getD undef=.pointer (some ⟨g,0,none⟩):=by simpa using e
 simp[results,h,a,asAddr,Result.andThen,run_loadVar_row w g t ty cs c d hg f hd hi]
theorem GJ {w x:A5}{row:Option Nat}{a:Addr}{v:A0}(h:w.grownBy x row)(b:w.heap.size<=a.block):w.grownBy (x.setCell a v) row:=by
 have g:=D3 x a v;refine⟨g.os.trans h.os,g.tape.trans h.tape,g.output.trans h.output,Ef h.size g.size,fun k hk hn=>?_⟩;exact(g.block k (Ed hk h.size) tV).trans (h.block k hk hn)
theorem Q8 {x:A5}{B:Nat}{a:Addr}{v:A0}{o:Obj}(h:x.heap[B]? =some o)(b:B≠a.block):(x.setCell a v).heap[B]? =some o:=
 ((D3 x a v).block B (E9.1 h).1 (by simpa using b)).trans h
theorem BM {x:A5}{B:Nat}{o ob:Obj}(h:x.heap[B]? =some o):(x.alloc ob).heap[B]? =some o:=
 (((Ea _ x).alloc (Dz _) ob).block B (E9.1 h).1).trans h
theorem WU {md:Region.Mode}{ops:Array A4}(n:Nat):A6 md ops n (Array.replicate ops.size false):=
 ⟨tU,fun j a _ hl=>(by rw[getD_replicate_false] at hl;cases hl),fun t _ ht=>getD_in (by simpa using ht) (getD_replicate_false _ _)⟩
theorem N8 {md:Region.Mode}{ops:Array A4}{n i:Nat}{a:Array Bool}(b:A6 md ops n a)(hi:(Region.ready md ops a).contains i=true)(c:i<n):A6 md ops n (a.setIfInBounds i true):=
 b.set tW c
theorem dZ {P:A3}{Q:Exit->Act->A5->Prop}{a:Act}{w:A5}{l:List A4}{b:Array Bool}{m:Nat}(k n:Nat)(i:A6 .any l.toArray n b)(d:Region.noSelect l.toArray=true)(hn:n<l.length)(hk:k<=n)
  (hs:Region.sinkB .any l.toArray n=true)(hc:Region.chainB .any l.toArray n=true)(e:Region.lexHead .any l.toArray (l.toArray.size-n) (n-k) k b=true)(hm:m=l.length-k)
  (h:wpStill P l.toArray w (fun o=>wpList P l.toArray Q (l.drop n) o w) ((l.drop k).take (n-k)) a):wpAny P .any l.toArray Q m b a w:=by
 have c:((l.drop k).take (n-k)).length=n-k:=tT;have f:(l.drop n).length=l.toArray.size-n:=tU;have H:=wpAnyL_lex (md:=.any) (g:=l.toArray.size-n) d hs hc (by simpa using hn) ((l.drop k).take (n-k)) k b a (fun j hj=>by
  have p:j<n-k:=by rw[c] at hj;exact hj
  rw[Er,Eb p,Ei];simp) tZ i (by rw[c];exact e) h
 have:=wpAny_of_head (Q':=Q) (g:=l.toArray.size-n) (fun b o q=>by
  have:=wpAny_of_seq (md:=.any) (Q':=Q) (l.drop n) n b o w (fun j=>by simp[List.getElem?_drop]) (by rw[f];exact q.1) q.2;rwa [f] at this) _ _ _ H
 rw[c,show n-k+(l.toArray.size-n)=m by simp;omega] at this;exact this
end Go.Proofs.YtjjmalchelniiaaGreatDoor