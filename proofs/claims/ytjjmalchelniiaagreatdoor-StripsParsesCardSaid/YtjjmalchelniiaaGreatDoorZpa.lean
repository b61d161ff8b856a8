/- No condition. -/
import Derived.Calls
import Derived.StillTail
import Derived.StillTactics
import Derived.StillTailTactics
import Derived.Laws.Rows
open Go renaming Value->A0,Program->A3,Oper->A4,World->A5,HeadInv->A6
namespace Go.Proofs.YtjjmalchelniiaaGreatDoor
open Go
theorem Wbt{p:Prop}(h:p:=by
 rcases Au j n with h|h
 ·exact h
 ·exact absurd hj (m _ q r j h)):p:=h
theorem sU{p:Prop}(h:p:=by simp;omega):p:=h
theorem sV{p:Prop}(h:p:=by simp):p:=h
theorem sW{p:Prop}(h:p:=by simpa using c):p:=h
abbrev Al:=@Bool.and_eq_true
abbrev Am:=@Array.getElem?_eq_some_iff
abbrev An:=@List.length_cons
abbrev Ao:=@List.setIfInBounds_toArray
abbrev Ap:=@Result.andThen_ok
abbrev Aq:=@run_loadVar_row
abbrev Ar:=@Nat.zero_add
abbrev As:=@Sem.run_bind
abbrev Au:=@Nat.lt_or_ge
abbrev Av:=@decide_eq_true_eq
abbrev Aw:=@Sem.run_pure
abbrev Ax:=@List.getElem?_drop
abbrev Ay:=@Bool.false_eq_true
abbrev Az:=@Nat.add_assoc
abbrev B5:=@Option.some.inj
abbrev B6:=@Bool.or_eq_true
abbrev B7:=@mem_ready
theorem A1:(∀(a:Act) (d:Nat) (v:A0),a.put (some d) v = {a with tmps:=a.tmps.setIfInBounds d v})/\(∀(a:Act) (v:A0),a.put none v=a)/\(∀(l:List A0) (i:Nat) (v:A0),l.toArray.setIfInBounds i v=(l.set i v).toArray)/\(∀(x v:A0) (l:List A0),(x::l).set 0 v=v::l)/\∀(x v:A0) (l:List A0) (i:Nat),(x::l).set (i+1) v=x::l.set i v:=
 ⟨fun _ _ _=>rfl,fun _ _=>rfl,fun _ _ _=>Ao ..,fun _ _ _=>rfl,fun _ _ _ _=>rfl⟩
section
variable {P:A3}{ops:Array A4}{md:Region.Mode}{S:A5->Prop}
def U9 (P:A3)(S:A5->Prop)(v:A0):Result Next->Prop
 |.ok (.value u) w=>u=v/\S w
 |.ok .skip w=>v=undef/\S w
 |.ok (.enter f args) w=>Calls P f args w fun e a=>e=.returned v/\S a
 |_=>False
def LY (P:A3)(ops:Array A4)(S:A5->Prop)(o:A4)(v:A0)(a:Act):Prop:=
 (Region.wanted o (yielded ops a.tmps)=true/\∀w,S w->U9 P S v ((execOp a.eval o).run P w))\/(Region.wanted o (yielded ops a.tmps)=false/\v=undef)
theorem LY.of_same {o:A4}{v:A0}{a b:Act}(c:LY P ops S o v a)(d:execOp b.eval o=execOp a.eval o)
  (e:Region.wanted o (yielded ops b.tmps)=Region.wanted o (yielded ops a.tmps)):LY P ops S o v b:=by
 unfold LY at *;rw[d,e];exact c
theorem LY.wpOp {i:Nat}{o:A4}{v:A0}{a:Act}{w:A5}{Q:Exit->Act->A5->Prop}{K:Act->A5->Prop}(hi:ops[i]? =some o)(g:LY P ops S o v a)(d:S w)(h:∀b,S b->K (a.put o.dst v) b):wpOp P ops Q i K a w:=by
 unfold Go.wpOp;simp only[hi];rcases g with ⟨c,hv⟩|⟨c,rfl⟩
 ·simp only[c,if_true]
  left
  have hm:=hv w d;unfold Oper.wp;generalize (execOp a.eval o).run P w=r at hm ⊢;cases r with
  |ok n b=>
   cases n <;> simp only[U9] at hm <;> simp only[Oper.upon]
   case value u=>obtain⟨rfl,h2⟩:=hm;exact h _ h2
   case skip=>obtain⟨rfl,h2⟩:=hm;exact h _ h2
   case enter f args=>exact hm.mono fun e j ⟨k,hs⟩=>by subst k;exact h _ hs
  |halt x b=>simp only[U9] at hm
 ·simp only[c,Ay,if_false];exact h _ d
def Ql (P:A3)(md:Region.Mode)(ops:Array A4)(S:A5->Prop)(n:Nat)(L:Array Bool->Act->Prop):Nat->Array Bool->Act->Prop
 |0,b,a=>L b a
 |f+1,b,a=>Region.ready md ops b≠[]/\∀i∈Region.ready md ops b,i<n/\∃o v,ops[i]? =some o/\LY P ops S o v a/\Ql P md ops S n L f (b.setIfInBounds i true) (a.put o.dst v)
theorem cG {n g:Nat}{L:Array Bool->Act->Prop}{Q:Exit->Act->A5->Prop}(d:∀b a w,L b a->S w->wpAny P md ops Q g b a w):
  ∀(f:Nat) (b:Array Bool) (a:Act) (w:A5),Ql P md ops S n L f b a->S w->wpAny P md ops Q (f+g) b a w
 |0,b,a,w,h,hS=>by rw[Ar];exact d _ _ _ h hS
 |f+1,b,a,w,h,hS=>by
  rw[show f+1+g=(f+g)+1 by omega];refine⟨fun e=>absurd e h.1,fun i hi=>?_⟩;obtain⟨_,o,v,ho,hc,hn⟩:=h.2 i hi;exact hc.wpOp ho hS fun j c=>cG d f _ _ j hn c
theorem Y4a {n i:Nat}{l:A4}{v:A0}{L:Array Bool->Act->Prop}(hi:ops[i]? =some l)(y:∀(j:Nat) (o:A4) cs b,ops[j]? =some o->o.op≠.select cs b)(V:i<n)
  (m:∀c,A6 md ops n c->c.getD i true=false->∀t,n<=t->t∉Region.ready md ops c)
  (B:∀c a,L c a->∀j∈Region.ready md ops c,n<=j):
  ∀(f:Nat) (c:Array Bool) (a:Act),A6 md ops n c->
   (∀j C,ops[j]? =some C->j≠i->c.getD j true=false->(∀e∈C.after,Region.binds md e=true->e.on≠i)->l.apart ops C=true)->
   i∈Region.ready md ops c->LY P ops S l v a->
   Ql P md ops S n L f (c.setIfInBounds i true) (a.put l.dst v)->Ql P md ops S n L (f+1) c a:=by
 intro f
 induction f with
 |zero=>
  intro c a q _ hr J H;have r:=(B7.1 hr).1;refine⟨fun h=>(by rw[h] at hr;cases hr),fun j hj=>?_⟩;have s:j<n:=by
   exact Wbt
  refine⟨s,?_⟩;by_cases g:j=i
  ·subst g;exact⟨l,v,hi,J,H⟩
  ·have:=B _ _ H j (ready_mono hj g);omega
 |succ f W=>
  intro c a q p hr J H;have r:=(B7.1 hr).1;refine⟨fun h=>(by rw[h] at hr;cases hr),fun j hj=>?_⟩;have s:j<n:=by
   exact Wbt
  refine⟨s,?_⟩;by_cases g:j=i
  ·subst g;exact⟨l,v,hi,J,H⟩
  ·obtain⟨_,d,u,D,K,M⟩:=H.2 j (ready_mono hj g);obtain⟨z,C,w,E⟩:=B7.1 hj;have e:d=C:=B5 (D.symm.trans w);subst e;have F:∀e∈d.after,Region.binds md e=true->e.on≠i:=fun e X Y N=>by
    have h1:=E e X Y;rw[N,getD_both r] at h1;cases h1
   have O:=p j d w g z F;obtain⟨h1,h2,h3⟩:=Oper.apart_spec O;have Q:=fun cs b=>y i l cs b hi;have R:=fun cs b=>y j d cs b w;have x:∀k G,ops[k]? =some G->k≠i->(c.setIfInBounds j true).getD k true=false->
     (∀e∈G.after,Region.binds md e=true->e.on≠i)->l.apart ops G=true:=fun k G hk T A U=>by
    refine p k G hk T ?_ U;by_cases I:j=k
    ·subst I;exact z
    ·rw[getD_set_ne true I] at A;exact A
   refine⟨d,u,w,K.of_same (execOp_put d R a l.dst v h1).symm (wanted_put d a l.dst v h1).symm,?_⟩;refine W (c.setIfInBounds j true) _ (q.set hj s) x (ready_mono hr (Ne.symm g)) (J.of_same (execOp_put l Q a d.dst u h3) (wanted_put l a d.dst u h3)) ?_;rw[Array.setIfInBounds_comm _ _ g,<-Act.put_comm a v u h2];exact M
def GA (P:A3)(ops:Array A4)(S:A5->Prop)(Q:Act->Prop):List A4->Act->Prop
 |[],a=>Q a
 |o::rest,a=>∃v,LY P ops S o v a/\GA P ops S Q rest (a.put o.dst v)
theorem WK {n g:Nat}{s:Act->Prop}(f:Region.noSelect ops=true)
  (d:∀i b,i<n->A6 md ops n b->b.getD i true=false->∀t,n<=t->t∉Region.ready md ops b):
  ∀(l:List A4) (k:Nat) (b:Array Bool) (a:Act),(∀j,j<l.length->l[j]? =ops[k+j]?)->k+l.length=n->A6 md ops n b->
  Region.lexHead md ops g l.length k b=true->GA P ops S s l a->
  Ql P md ops S n (fun c u=>Region.seqB md ops g n c=true/\s u) l.length b a
 |[],k,b,a,_,hk,_,hB,h=>by
  have:k=n:=by simpa using hk
  subst this;exact⟨by simpa [Region.lexHead] using hB,h⟩
 |o::l,k,b,a,hl,hk,e,hB,h=>by
  have w:ops[k]? =some o:=by simpa using (hl 0 (by simp)).symm
  simp only[An,Region.lexHead,Al] at hB;obtain⟨⟨hr,x⟩,q⟩:=hB;have m:k<n:=by simp only[An] at hk;omega
  have p:k∈Region.ready md ops b:=by simpa using hr
  obtain⟨v,y,z⟩:=h;exact Y4a w (Region.noSelect_spec f) m (fun b e r=>d k b m e r) (fun c u A=>seqB_ready A.1) l.length b a e (Region.free_spec w x) p y
   (WK f d l (k+1) _ _ (fun j hj=>by have:=hl (j+1) (by simp;omega);simpa [Nat.add_assoc,Nat.add_comm 1 j] using this) (by simp only[An] at hk;omega) (e.set p m) q z)
def Xd (md:Region.Mode)(ops:Array A4)(n:Nat):Bool:=
 Region.noSelect ops&&decide (n<=ops.size)&&(decide (n=ops.size) || (Region.sinkB md ops n&&Region.chainB md ops n))&&Region.lexHead md ops (ops.size-n) n 0 (Array.replicate ops.size false)
theorem E1 {id:Nat}{Q:Exit->Act->A5->Prop}{a:Act}{w:A5}{l:List A4}(n:Nat)(hm:P.follows .mixedOrders=true)(y:Xd .any l.toArray n=true)(A:S w.drew)
  (h:GA P l.toArray S (fun q=>∀f,S f->wpList P l.toArray Q (l.drop n) q f) (l.take n) a):(Code.region id l.toArray true).wp P Q a w:=by
 simp only[Xd,Al,B6,Av] at y;obtain⟨⟨⟨k,hn⟩,r⟩,m⟩:=y;have B:n<=l.length:=by simpa using hn
 have c:(l.take n).length=n:=sU;have o:(l.drop n).length=l.toArray.size-n:=sV;have p:A6 .any l.toArray n (Array.replicate l.toArray.size false):=
  ⟨sV,fun j D _ hl=>(by rw[getD_replicate_false] at hl;cases hl),fun t _ ht=>getD_in (by simpa using ht) (getD_replicate_false _ _)⟩
 have d:∀i b,i<n->A6 .any l.toArray n b->b.getD i true=false->∀t,n<=t->t∉Region.ready .any l.toArray b:=by
  intro i b hi s u t ht hr;rcases r with E|⟨hs,hc⟩
  ·obtain⟨_,C,e,_⟩:=B7.1 hr;have:=(Am.1 e).1;omega
  ·rcases Au n l.toArray.size with h1|h1
   ·exact tail_waits hs hc h1 s _ i rfl hi u t ht hr
   ·obtain⟨_,C,e,_⟩:=B7.1 hr;have:=(Am.1 e).1;omega
 have H:=WK (md:=.any) (g:=l.toArray.size-n) k d (l.take n) 0 _ a (fun j hj=>by
  have v:j<n:=by rw[c] at hj;exact hj
  simp[v]) sW p (by rw[c];exact m) h
 refine wp_region_any hm ?_;have:=cG (Q:=Q) (g:=l.toArray.size-n) (fun b q f z x=>by
  have:=wpAny_of_seq (md:=.any) (Q':=Q) (l.drop n) n b q f (fun j=>by simp[List.getElem?_drop]) (by rw[o];exact z.1) (z.2 f x);rwa [o] at this) _ _ _ w.drew H A
 rw[c,show n+(l.toArray.size-n)=l.toArray.size by omega] at this;exact this
variable {Q:Act->Prop}{o:A4}{rest:List A4}{a:Act}
theorem DX (h:Q a):GA P ops S Q [] a:=h
theorem B1 {v:A0}(c:Region.wanted o (yielded ops a.tmps)=true)(hr:∀w,S w->(execOp a.eval o).run P w=.ok (.value v) w)(h:GA P ops S Q rest (a.put o.dst v)):GA P ops S Q (o::rest) a:=
 ⟨v,.inl ⟨c,fun w b=>by rw[hr w b];exact⟨rfl,b⟩⟩,h⟩
theorem AQ {v:A0}(h:GA P ops S Q rest (a.put o.dst v))(b:Region.wanted o (yielded ops a.tmps)=true:=by kernel_rfl)(hr:∀w,S w->(execOp a.eval o).run P w=.ok (.value v) w:=by intro x _;go_simp;try with_reducible rfl):GA P ops S Q (o::rest) a:=
 B1 b hr h
theorem GB (b:Region.wanted o (yielded ops a.tmps)=false)(h:GA P ops S Q rest (a.put o.dst undef)):GA P ops S Q (o::rest) a:=
 ⟨undef,.inr ⟨b,rfl⟩,h⟩
theorem C2 {v:A0}{f:FuncId}{args:Array A0}(b:Region.wanted o (yielded ops a.tmps)=true)(hc:∀w,S w->Calls P f args w fun e c=>e=.returned v/\S c)
  (hr:∀w,(execOp a.eval o).run P w=.ok (.enter f args) w)(h:GA P ops S Q rest (a.put o.dst v)):GA P ops S Q (o::rest) a:=
 ⟨v,.inl ⟨b,fun w d=>by rw[hr w];exact hc w d⟩,h⟩
theorem NG (ty:TypeId)(x:Operand)(b:Nat)(t:TypeId)(cs:Array A0)(c:Nat×Nat)(d:TypeDesc)(e:Region.wanted o (yielded ops a.tmps)=true)(ho:o.op=.load ty x)(f:a.eval x=.pointer (some ⟨b,0,none⟩))(hg:∀w,S w->w.heap[b]? =some (.cells cs t c))
  (g:P.underlying ty=some d)(hd:(match d with|.struct _|.array _ _=>true|_=>false)=true)(hi:(P.info? ty).map (·.size)=some cs.size)(h:GA P ops S Q rest (a.put o.dst (.agg cs))):GA P ops S Q (o::rest) a:=
 B1 e (fun w i=>by
  unfold execOp;simp only[ho,f,Instr.loadAt,Instr.sureAddr,As,Aw,Ap,Aq w b t ty cs c d (hg w i) g hd hi]) h
theorem B4 (ty:TypeId)(x:Operand)(ad:Addr)(v:A0)(b:Region.wanted o (yielded ops a.tmps)=true)(ho:o.op=.load ty x)(c:a.eval x=.pointer (some ad))(hl:∀w,S w->(loadVar ty ad).run P w=.ok v w)
  (h:GA P ops S Q rest (a.put o.dst v)):GA P ops S Q (o::rest) a:=
 B1 b (fun w d=>by
  unfold execOp;simp only[ho,c,Instr.loadAt,Instr.sureAddr,As,Aw,Ap,hl w d]) h
end
end Go.Proofs.YtjjmalchelniiaaGreatDoor