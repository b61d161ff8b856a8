/- Texts that SheetinTakes's proof stands on, part 4 of 52. No condition of its own. -/
import Derived.RegionTactic
import Derived.KernelRfl
import Derived.StillTailTactics
import Derived.Deep.MidRow
import Derived.Laws.CopyRow
import Derived.Below
import Derived.Laws.AppendOwn
import Derived.OwnWalk
import Derived.Laws.ResultCell
import Derived.Laws.Rows
namespace Go.Proofs.YtpgdngijmihafaaGreatDoor
open Go.RowKit
theorem Yar {P:Program} {md:Region.Mode} {ops:Array Oper} {Q:Exit→Act→World→Prop} (i:Nat) {oi:Oper} (d:Option Tmp) {v:Value} {fuel:Nat} {listed:Array Bool} {a:Act} {w:World} (hi:ops[i]? = some oi) (hd:oi.dst=d)
  (hs:Region.noSelect ops=true) (hf:Region.free md ops listed i=true) (hr:(Region.ready md ops listed).contains i=true)
  (hQ:∀c a w,Q (.panic c) (a.put d v) w→Q (.panic c) a w) (hy:Yields P ops oi v a)
  (h:wpAny P md ops Q fuel (listed.setIfInBounds i true) (a.put d v) w):wpAny P md ops Q (fuel+1) listed a w:=by
 subst hd
 exact wpAny_take hi hs hf hr hQ hy h
theorem Ym2 {P:Program} {w:World} {ev:Operand→Value} {o:Oper} {ty:TypeId} {x:Operand} {v:Value} {ad:Addr} (ho:o.op = .load ty x) (hx:ev x = .pointer (some ad)) (h:(loadVar ty ad).run P w = .ok v w):
  (execOp ev o).run P w = .ok (.value v) w:=by
 unfold execOp
 simp only [ho,hx,Instr.loadAt,Instr.sureAddr,Sem.run_bind,Sem.run_pure,Result.andThen_ok,h]
theorem Yaa {w:World} {b o:Nat} {cs:List Value} {T:TypeId} {x:Value} (h:w.heap[b]? = some (.cells cs.toArray T (0,0))) (hx:cs[o]? = some x):w.cell? ⟨b,o,none⟩=some x:=by
 rw [cell_of_row w b o _ _ _ h];simpa using hx
theorem Yag {w:World} {b o:Nat} {cs:List Value} {T:TypeId} (h:w.heap[b]? = some (.cells cs.toArray T (0,0))):w.frozen? ⟨b,o,none⟩=false:=frozen_of_row w b o _ T h
theorem Yau {w:World} {b o:Nat} {cs:List Value} {T:TypeId} (x:Value) (h:w.heap[b]? = some (.cells cs.toArray T (0,0))):(w.setCell ⟨b,o,none⟩ x).heap[b]? = some (.cells (cs.set o x).toArray T (0,0)):=by
 rw [heap_setCell_same w b o _ T x h];simp
theorem Yao {a b c:World} {row:Option Nat} (h:a.grownBy b row) (k:b.grownBy c row):a.grownBy c row:=
 ⟨k.os.trans h.os,k.tape.trans h.tape,k.output.trans h.output,Nat.le_trans h.size k.size,fun i hi hr=> (k.block i (Nat.lt_of_lt_of_le hi h.size) hr).trans (h.block i hi hr)⟩
theorem Yam (w:World) (a:Addr) (v:Value):w.grownBy (w.setCell a v) (some a.block):=
 ⟨rfl,rfl,rfl,by simp [World.setCell],fun k _ hk=> heap_setCell_other w a k v (by intro e;exact hk (by rw [e]))⟩
theorem Yb9 (w:World) (row:Option Nat):w.grownBy w.drew row:=⟨rfl,rfl,rfl,Nat.le_refl _,fun _ _ _=> rfl⟩
theorem Yal {w x:World} (h:Below w.heap.size w x) (row:Option Nat):w.grownBy x row:=⟨h.os,h.tape,h.output,h.size,fun k hk _=> h.block k hk⟩
theorem Ybc {w:World} {base e size n:Nat} {v:Value} {xs:List Value} (h:w.ownsRow base e size v n xs):∀k,v.ownBlock=some k→base≤k:=by
 intro k hk
 rcases h.2 with ⟨rfl,_⟩ | ⟨g,cap,cur,rfl,hg,_⟩
 ·cases hk
 ·cases hk;exact hg
theorem Yan {P:Program} {fn:Func} {p u:Tmp} {ty:TypeId} (h:fn.results = #[.cell p ty,.tmp u]) (tmps:Array Value) (w:World) (g:Nat) (t:TypeId) (cs:Array Value) (fr:Nat×Nat) (d:TypeDesc)
  (hp:tmps.getD p undef = .pointer (some ⟨g,0,none⟩)) (hg:w.heap[g]? = some (.cells cs t fr))
  (hu:P.underlying ty=some d) (hd:(match d with | .struct _ | .array _ _=> true | _=> false)=true) (hi:(P.info? ty).map (·.size)=some cs.size):
  (results fn tmps).run P w = .ok (.tuple #[.agg cs,tmps.getD u undef]) w:=by
 rw [results_cell_tmp h,hp]
 simp [asAddr,Result.andThen,run_loadVar_row w g t ty cs fr d hg hu hd hi]
theorem Yaf {P:Program} {fn:Func} {p u v:Tmp} {ty:TypeId} (h:fn.results = #[.cell p ty,.tmp u,.tmp v]) (tmps:Array Value) (w:World) (g:Nat) (t:TypeId) (cs:Array Value) (fr:Nat×Nat) (d:TypeDesc)
  (hp:tmps.getD p undef = .pointer (some ⟨g,0,none⟩)) (hg:w.heap[g]? = some (.cells cs t fr))
  (hu:P.underlying ty=some d) (hd:(match d with | .struct _ | .array _ _=> true | _=> false)=true) (hi:(P.info? ty).map (·.size)=some cs.size):
  (results fn tmps).run P w = .ok (.tuple #[.agg cs,tmps.getD u undef,tmps.getD v undef]) w:=by
 have hp':tmps[p]?.getD undef = .pointer (some ⟨g,0,none⟩):=by simpa using hp
 simp [results,h,hp',asAddr,Result.andThen,run_loadVar_row w g t ty cs fr d hg hu hd hi]
theorem Ybj {w x:World} {row:Option Nat} {a:Addr} {v:Value} (h:w.grownBy x row) (hB:w.heap.size≤a.block):w.grownBy (x.setCell a v) row:=by
 have g:=Yam x a v
 refine ⟨g.os.trans h.os,g.tape.trans h.tape,g.output.trans h.output,Nat.le_trans h.size g.size,fun k hk hn=> ?_⟩
 exact (g.block k (Nat.lt_of_lt_of_le hk h.size) (by intro e;injection e with e;omega)).trans (h.block k hk hn)
theorem Yln {x:World} {B:Nat} {a:Addr} {v:Value} {o:Obj} (h:x.heap[B]? = some o) (hne:B≠a.block):(x.setCell a v).heap[B]? = some o:=
 ((Yam x a v).block B (Array.getElem?_eq_some_iff.1 h).1 (by simpa using hne)).trans h
theorem Yat {x:World} {B:Nat} {o ob:Obj} (h:x.heap[B]? = some o):(x.alloc ob).heap[B]? = some o:=
 (((Below.refl _ x).alloc (Nat.le_refl _) ob).block B (Array.getElem?_eq_some_iff.1 h).1).trans h
theorem Ysy {md:Region.Mode} {ops:Array Oper} (n:Nat):HeadInv md ops n (Array.replicate ops.size false):=
 ⟨by simp,fun j oj _ hl=> (by rw [getD_replicate_false] at hl;cases hl),fun t _ ht=> getD_in (by simpa using ht) (getD_replicate_false _ _)⟩
theorem Yff {md:Region.Mode} {ops:Array Oper} {n i:Nat} {listed:Array Bool} (inv:HeadInv md ops n listed) (hi:(Region.ready md ops listed).contains i=true) (hin:i<n):HeadInv md ops n (listed.setIfInBounds i true):=
 inv.set (by simpa using hi) hin
theorem Yr7 {P:Program} {Q:Exit→Act→World→Prop} {a:Act} {w:World} {l:List Oper} {listed:Array Bool} {m:Nat} (k n:Nat) (inv:HeadInv .any l.toArray n listed) (hsel:Region.noSelect l.toArray=true) (hn:n<l.length) (hk:k≤n)
  (hs:Region.sinkB .any l.toArray n=true) (hc:Region.chainB .any l.toArray n=true) (hlex:Region.lexHead .any l.toArray (l.toArray.size-n) (n-k) k listed=true) (hm:m=l.length-k)
  (h:wpStill P l.toArray w (fun a'=> wpList P l.toArray Q (l.drop n) a' w) ((l.drop k).take (n-k)) a):wpAny P .any l.toArray Q m listed a w:=by
 have htl:((l.drop k).take (n-k)).length=n-k:=by simp;omega
 have hdl:(l.drop n).length=l.toArray.size-n:=by simp
 have H:=wpAnyL_lex (md:=.any) (g:=l.toArray.size-n) hsel hs hc (by simpa using hn) ((l.drop k).take (n-k)) k listed a (fun j hj=> by
  have hj':j<n-k:=by rw [htl] at hj;exact hj
  rw [List.getElem?_take,if_pos hj',List.getElem?_drop]
  simp) (by rw [htl];omega) inv (by rw [htl];exact hlex) h
 have:=wpAny_of_head (Q':=Q) (g:=l.toArray.size-n) (fun listed a' hL=> by
  have:=wpAny_of_seq (md:=.any) (Q':=Q) (l.drop n) n listed a' w (fun j=> by simp [List.getElem?_drop]) (by rw [hdl];exact hL.1) hL.2
  rwa [hdl] at this) _ _ _ H
 rw [htl,show n-k+(l.toArray.size-n)=m by simp;omega] at this
 exact this
end Go.Proofs.YtpgdngijmihafaaGreatDoor