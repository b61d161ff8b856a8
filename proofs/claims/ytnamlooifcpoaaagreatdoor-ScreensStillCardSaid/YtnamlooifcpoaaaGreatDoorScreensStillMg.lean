/- No condition. -/
import Derived.StillTail
import Derived.StillTactics
import Derived.StillTailTactics
import Derived.KernelRfl
import Derived.Laws.Rows
namespace Go.Proofs.YtnamlooifcpoaaaGreatDoor
open Go
section
variable {P:Program}{ops:Array Oper}{md:Region.Mode}{S:World→Prop}
def Yx9 (P:Program)(S:World→Prop)(v:Value):Result Next→Prop
 |.ok (.value u) w=>u=v∧S w
 |.ok .skip w=>v=undef∧S w
 |.ok (.enter f args) w=>Calls P f args w fun e w'=>e=.returned v∧S w'
 |_=>False
def Yff (P:Program)(ops:Array Oper)(S:World→Prop)(o:Oper)(v:Value)(a:Act):Prop:=
 (Region.wanted o (yielded ops a.tmps)=true∧∀w,S w→Yx9 P S v ((execOp a.eval o).run P w))∨(Region.wanted o (yielded ops a.tmps)=false∧v=undef)
theorem Yff.of_same {o:Oper}{v:Value}{a a':Act}(hy:Yff P ops S o v a)(he:execOp a'.eval o=execOp a.eval o)
  (hw:Region.wanted o (yielded ops a'.tmps)=Region.wanted o (yielded ops a.tmps)):Yff P ops S o v a':=by
 unfold Yff at *;rw[he,hw];exact hy
theorem Yff.wpOp {i:Nat}{o:Oper}{v:Value}{a:Act}{w:World}{Q:Exit→Act→World→Prop}{K:Act→World→Prop}(hi:ops[i]? =some o)(hy:Yff P ops S o v a)(hS:S w)(h:∀w',S w'→K (a.put o.dst v) w'):wpOp P ops Q i K a w:=by
 unfold Go.wpOp;simp only[hi];rcases hy with ⟨hw,hv⟩|⟨hw,rfl⟩
 ·simp only[hw,if_true]
  left
  have hm:=hv w hS;unfold Oper.wp;generalize (execOp a.eval o).run P w=r at hm ⊢;cases r with
  |ok n w'=>
   cases n <;> simp only[Yx9] at hm <;> simp only[Oper.upon]
   case value u=>obtain⟨rfl,h2⟩:=hm;exact h _ h2
   case skip=>obtain⟨rfl,h2⟩:=hm;exact h _ h2
   case enter f args=>exact hm.mono fun e w'' ⟨he,hs⟩=>by subst he;exact h _ hs
  |halt x w'=>simp only[Yx9] at hm
 ·simp only[hw,Bool.false_eq_true,if_false];exact h _ hS
def Ym0 (P:Program)(md:Region.Mode)(ops:Array Oper)(S:World→Prop)(n:Nat)(L:Array Bool→Act→Prop):Nat→Array Bool→Act→Prop
 |0,listed,a=>L listed a
 |f+1,listed,a=>Region.ready md ops listed≠[]∧∀i∈Region.ready md ops listed,i<n∧∃o v,ops[i]? =some o∧Yff P ops S o v a∧Ym0 P md ops S n L f (listed.setIfInBounds i true) (a.put o.dst v)
theorem Yf0 {n g:Nat}{L:Array Bool→Act→Prop}{Q:Exit→Act→World→Prop}(hL:∀listed a w,L listed a→S w→wpAny P md ops Q g listed a w):
  ∀(f:Nat) (listed:Array Bool) (a:Act) (w:World),Ym0 P md ops S n L f listed a→S w→wpAny P md ops Q (f+g) listed a w
 |0,listed,a,w,h,hS=>by rw[Nat.zero_add];exact hL _ _ _ h hS
 |f+1,listed,a,w,h,hS=>by
  rw[show f+1+g=(f+g)+1 by omega];refine⟨fun h0=>absurd h0 h.1,fun i hi=>?_⟩;obtain⟨_,o,v,ho,hc,hn⟩:=h.2 i hi;exact hc.wpOp ho hS fun w' hS'=>Yf0 hL f _ _ w' hn hS'
theorem Ym1 {n i:Nat}{oi:Oper}{v:Value}{L:Array Bool→Act→Prop}(hi:ops[i]? =some oi)(hsel:∀(j:Nat) (o:Oper) cs b,ops[j]? =some o→o.op≠.select cs b)(hin:i<n)
  (htail:∀listed,HeadInv md ops n listed→listed.getD i true=false→∀t,n≤t→t∉Region.ready md ops listed)
  (hdone:∀listed a,L listed a→∀j∈Region.ready md ops listed,n≤j):
  ∀(f:Nat) (listed:Array Bool) (a:Act),HeadInv md ops n listed→
   (∀j oj,ops[j]? =some oj→j≠i→listed.getD j true=false→(∀e∈oj.after,Region.binds md e=true→e.on≠i)→oi.apart ops oj=true)→
   i∈Region.ready md ops listed→Yff P ops S oi v a→
   Ym0 P md ops S n L f (listed.setIfInBounds i true) (a.put oi.dst v)→Ym0 P md ops S n L (f+1) listed a:=by
 intro f
 induction f with
 |zero=>
  intro listed a inv _ hr hy H;have hun:=(mem_ready.1 hr).1;refine⟨fun h=>(by rw[h] at hr;cases hr),fun j hj=>?_⟩;have hjn:j<n:=by
   rcases Nat.lt_or_ge j n with h|h
   ·exact h
   ·exact absurd hj (htail _ inv hun j h)
  refine⟨hjn,?_⟩;by_cases hji:j=i
  ·subst hji;exact⟨oi,v,hi,hy,H⟩
  ·have:=hdone _ _ H j (ready_mono hj hji);omega
 |succ f ih=>
  intro listed a inv hfree hr hy H;have hun:=(mem_ready.1 hr).1;refine⟨fun h=>(by rw[h] at hr;cases hr),fun j hj=>?_⟩;have hjn:j<n:=by
   rcases Nat.lt_or_ge j n with h|h
   ·exact h
   ·exact absurd hj (htail _ inv hun j h)
  refine⟨hjn,?_⟩;by_cases hji:j=i
  ·subst hji;exact⟨oi,v,hi,hy,H⟩
  ·obtain⟨_,oj',u,hoj',hyj,hnx⟩:=H.2 j (ready_mono hj hji);obtain⟨hjun,oj,hoj,Yx1⟩:=mem_ready.1 hj;have e:oj'=oj:=Option.some.inj (hoj'.symm.trans hoj);subst e;have hnot:∀e∈oj'.after,Region.binds md e=true→e.on≠i:=fun e he hb heq=>by
    have h1:=Yx1 e he hb;rw[heq,getD_both hun] at h1;cases h1
   have hap:=hfree j oj' hoj hji hjun hnot;obtain⟨h1,h2,h3⟩:=Oper.apart_spec hap;have hsi:=fun cs b=>hsel i oi cs b hi;have hsj:=fun cs b=>hsel j oj' cs b hoj;have hfree':∀k ok,ops[k]? =some ok→k≠i→(listed.setIfInBounds j true).getD k true=false→
     (∀e∈ok.after,Region.binds md e=true→e.on≠i)→oi.apart ops ok=true:=fun k ok hk hki hun' hno=>by
    refine hfree k ok hk hki ?_ hno;by_cases hjk:j=k
    ·subst hjk;exact hjun
    ·rw[getD_set_ne true hjk] at hun';exact hun'
   refine⟨oj',u,hoj,hyj.of_same (execOp_put oj' hsj a oi.dst v h1).symm (wanted_put oj' a oi.dst v h1).symm,?_⟩;refine ih (listed.setIfInBounds j true) _ (inv.set hj hjn) hfree' (ready_mono hr (Ne.symm hji)) (hy.of_same (execOp_put oi hsi a oj'.dst u h3) (wanted_put oi a oj'.dst u h3)) ?_;rw[Array.setIfInBounds_comm _ _ hji,←Act.put_comm a v u h2];exact hnx
def Ydm (P:Program)(ops:Array Oper)(S:World→Prop)(Q:Act→Prop):List Oper→Act→Prop
 |[],a=>Q a
 |o::rest,a=>∃v,Yff P ops S o v a∧Ydm P ops S Q rest (a.put o.dst v)
theorem Yjv {n g:Nat}{Lq:Act→Prop}(hsel:Region.noSelect ops=true)
  (htail:∀i listed,i<n→HeadInv md ops n listed→listed.getD i true=false→∀t,n≤t→t∉Region.ready md ops listed):
  ∀(l:List Oper) (k:Nat) (listed:Array Bool) (a:Act),(∀j,j<l.length→l[j]? =ops[k+j]?)→k+l.length=n→HeadInv md ops n listed→
  Region.lexHead md ops g l.length k listed=true→Ydm P ops S Lq l a→
  Ym0 P md ops S n (fun listed' a'=>Region.seqB md ops g n listed'=true∧Lq a') l.length listed a
 |[],k,listed,a,_,hk,_,hB,h=>by
  have:k=n:=by simpa using hk
  subst this;exact⟨by simpa [Region.lexHead] using hB,h⟩
 |o::l,k,listed,a,hl,hk,inv,hB,h=>by
  have h0:ops[k]? =some o:=by simpa using (hl 0 (by simp)).symm
  simp only[List.length_cons,Region.lexHead,Bool.and_eq_true] at hB;obtain⟨⟨hr,hf⟩,hB'⟩:=hB;have hkn:k<n:=by simp only[List.length_cons] at hk;omega
  have hr':k∈Region.ready md ops listed:=by simpa using hr
  obtain⟨v,hy,hK⟩:=h;exact Ym1 h0 (Region.noSelect_spec hsel) hkn (fun listed inv hun=>htail k listed hkn inv hun) (fun listed' a' hL=>seqB_ready hL.1) l.length listed a inv (Region.free_spec h0 hf) hr' hy
   (Yjv hsel htail l (k+1) _ _ (fun j hj=>by have:=hl (j+1) (by simp;omega);simpa [Nat.add_assoc,Nat.add_comm 1 j] using this) (by simp only[List.length_cons] at hk;omega) (inv.set hr' hkn) hB' hK)
def Yz4 (md:Region.Mode)(ops:Array Oper)(n:Nat):Bool:=
 Region.noSelect ops&&decide (n≤ops.size)&&(decide (n=ops.size) || (Region.sinkB md ops n&&Region.chainB md ops n))&&Region.lexHead md ops (ops.size-n) n 0 (Array.replicate ops.size false)
theorem Yan {id:Nat}{Q:Exit→Act→World→Prop}{a:Act}{w:World}{l:List Oper}(n:Nat)(hm:P.follows .mixedOrders=true)(hB:Yz4 .any l.toArray n=true)(hS:S w.drew)
  (h:Ydm P l.toArray S (fun a'=>∀w',S w'→wpList P l.toArray Q (l.drop n) a' w') (l.take n) a):(Code.region id l.toArray true).wp P Q a w:=by
 simp only[Yz4,Bool.and_eq_true,Bool.or_eq_true,decide_eq_true_eq] at hB;obtain⟨⟨⟨hsel,hn⟩,hor⟩,hlex⟩:=hB;have hn':n≤l.length:=by simpa using hn
 have htl:(l.take n).length=n:=by simp;omega
 have hdl:(l.drop n).length=l.toArray.size-n:=by simp
 have inv0:HeadInv .any l.toArray n (Array.replicate l.toArray.size false):=
  ⟨by simp,fun j oj _ hl=>(by rw[getD_replicate_false] at hl;cases hl),fun t _ ht=>getD_in (by simpa using ht) (getD_replicate_false _ _)⟩
 have htail:∀i listed,i<n→HeadInv .any l.toArray n listed→listed.getD i true=false→∀t,n≤t→t∉Region.ready .any l.toArray listed:=by
  intro i listed hi inv hun t ht hr;rcases hor with he|⟨hs,hc⟩
  ·obtain⟨_,ot,hot,_⟩:=mem_ready.1 hr;have:=(Array.getElem?_eq_some_iff.1 hot).1;omega
  ·rcases Nat.lt_or_ge n l.toArray.size with h1|h1
   ·exact tail_waits hs hc h1 inv _ i rfl hi hun t ht hr
   ·obtain⟨_,ot,hot,_⟩:=mem_ready.1 hr;have:=(Array.getElem?_eq_some_iff.1 hot).1;omega
 have H:=Yjv (md:=.any) (g:=l.toArray.size-n) hsel htail (l.take n) 0 _ a (fun j hj=>by
  have hj':j<n:=by rw[htl] at hj;exact hj
  simp[hj']) (by simpa using htl) inv0 (by rw[htl];exact hlex) h
 refine wp_region_any hm ?_;have:=Yf0 (Q:=Q) (g:=l.toArray.size-n) (fun listed a' w' hL hS'=>by
  have:=wpAny_of_seq (md:=.any) (Q':=Q) (l.drop n) n listed a' w' (fun j=>by simp[List.getElem?_drop]) (by rw[hdl];exact hL.1) (hL.2 w' hS');rwa [hdl] at this) _ _ _ w.drew H hS
 rw[htl,show n+(l.toArray.size-n)=l.toArray.size by omega] at this;exact this
variable {Q:Act→Prop}{o:Oper}{rest:List Oper}{a:Act}
theorem Ybi (h:Q a):Ydm P ops S Q [] a:=h
theorem Yab {v:Value}(hw:Region.wanted o (yielded ops a.tmps)=true)(hr:∀w,S w→(execOp a.eval o).run P w=.ok (.value v) w)(h:Ydm P ops S Q rest (a.put o.dst v)):Ydm P ops S Q (o::rest) a:=
 ⟨v,.inl ⟨hw,fun w hS=>by rw[hr w hS];exact⟨rfl,hS⟩⟩,h⟩
theorem Ydk (hw:Region.wanted o (yielded ops a.tmps)=false)(h:Ydm P ops S Q rest (a.put o.dst undef)):Ydm P ops S Q (o::rest) a:=
 ⟨undef,.inr ⟨hw,rfl⟩,h⟩
theorem Ya5 {v:Value}{f:FuncId}{args:Array Value}(hw:Region.wanted o (yielded ops a.tmps)=true)(hc:∀w,S w→Calls P f args w fun e w'=>e=.returned v∧S w')
  (hr:∀w,(execOp a.eval o).run P w=.ok (.enter f args) w)(h:Ydm P ops S Q rest (a.put o.dst v)):Ydm P ops S Q (o::rest) a:=
 ⟨v,.inl ⟨hw,fun w hS=>by rw[hr w];exact hc w hS⟩,h⟩
theorem Yc9 (ty:TypeId)(x:Operand)(b:Nat)(t:TypeId)(cs:Array Value)(fr:Nat×Nat)(d:TypeDesc)(hw:Region.wanted o (yielded ops a.tmps)=true)(ho:o.op=.load ty x)(hx:a.eval x=.pointer (some ⟨b,0,none⟩))(hg:∀w,S w→w.heap[b]? =some (.cells cs t fr))
  (hu:P.underlying ty=some d)(hd:(match d with|.struct _|.array _ _=>true|_=>false)=true)(hi:(P.info? ty).map (·.size)=some cs.size)(h:Ydm P ops S Q rest (a.put o.dst (.agg cs))):Ydm P ops S Q (o::rest) a:=
 Yab hw (fun w hS=>by
  unfold execOp;simp only[ho,hx,Instr.loadAt,Instr.sureAddr,Sem.run_bind,Sem.run_pure,Result.andThen_ok,run_loadVar_row w b t ty cs fr d (hg w hS) hu hd hi]) h
theorem Yas (ty:TypeId)(x:Operand)(ad:Addr)(v:Value)(hw:Region.wanted o (yielded ops a.tmps)=true)(ho:o.op=.load ty x)(hx:a.eval x=.pointer (some ad))(hl:∀w,S w→(loadVar ty ad).run P w=.ok v w)
  (h:Ydm P ops S Q rest (a.put o.dst v)):Ydm P ops S Q (o::rest) a:=
 Yab hw (fun w hS=>by
  unfold execOp;simp only[ho,hx,Instr.loadAt,Instr.sureAddr,Sem.run_bind,Sem.run_pure,Result.andThen_ok,hl w hS]) h
end
end Go.Proofs.YtnamlooifcpoaaaGreatDoor