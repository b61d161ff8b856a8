/- No condition. -/
import Derived.Deep.RegionHeld
open Go renaming Program->A3,Oper->A4,World->A5,Value->A0
namespace Go.Proofs.YtjjmalchelniiaaGreatDoor
section
theorem xV{p:Prop}(h:p:=by simp):p:=h
abbrev Ls:=@List.mem_cons
abbrev Lt:=@List.not_mem_nil
abbrev Lu:=@Array.setIfInBounds_comm
abbrev Lv:=@or_false
abbrev Lw:=@wpAny_all
abbrev Lx:=@wpOp_mono
theorem BY {P:A3}{ops:Array A4}{Q:Exit->Act->A5->Prop}{md:Region.Mode}{S:A5->Prop}(i:Nat){f:A4}(d:Option Tmp){v:A0}{e:Nat}{b:Array Bool}{a:Act}{w:A5}(hi:ops[i]? =some f)(hd:f.dst=d)
  (hs:Region.noSelect ops=true)(g:Region.free md ops b i=true)(hr:(Region.ready md ops b).contains i=true)
  (j:∀c a w,Q (.panic c) (a.put d v) w->Q (.panic c) a w)(k:S w)(l:YieldsIf P ops S f v a)
  (h:wpAnyH P md ops Q S e (b.setIfInBounds i true) (a.put d v) w):wpAnyH P md ops Q S (e+1) b a w:=by
 subst hd;exact wpAnyH_take hi hs g hr j l k h
end
section
open Go
theorem B2 {P:A3}{ops:Array A4}{Q:Exit->Act->A5->Prop}{md:Region.Mode}{S:A5->Prop}(i:Nat){f:A4}(d:Option Tmp){v:A0}{e:Nat}{b:Array Bool}{a:Act}{w:A5}(hi:ops[i]? =some f)(hd:f.dst=d)(g:S w)
  (j:Region.wanted f (yielded ops a.tmps)=true)(hc:∀x,S x->(execOp a.eval f).run P x=.ok (.value v) x)(h:wpAnyH P md ops Q S e (b.setIfInBounds i true) (a.put d v) w)
  (hs:Region.noSelect ops=true:=by kernel_rfl)(k:Region.free md ops b i=true:=by kernel_rfl)(hr:(Region.ready md ops b).contains i=true:=by kernel_rfl)
  (l:∀c a w,Q (.panic c) (a.put d v) w->Q (.panic c) a w:=by exact fun _ _ _ h=>h):wpAnyH P md ops Q S (e+1) b a w:=
 BY i d hi hd hs k hr l g (.inl ⟨j,hc⟩) h
theorem AC {P:A3}{ops:Array A4}{Q:Exit->Act->A5->Prop}{md:Region.Mode}{S:A5->Prop}(i:Nat){f:A4}(d:Option Tmp){v:A0}{e:Nat}{b:Array Bool}{a:Act}{w:A5}(g:S w)(h:wpAnyH P md ops Q S e (b.setIfInBounds i true) (a.put d v) w)
  (hi:ops[i]? =some f:=by exact rfl)(hd:f.dst=d:=by exact rfl)(j:Region.wanted f (yielded ops a.tmps)=true:=by kernel_rfl)(hc:∀x,S x->(execOp a.eval f).run P x=.ok (.value v) x:=by intro x _;go_simp;try with_reducible rfl)
  (hs:Region.noSelect ops=true:=by kernel_rfl)(k:Region.free md ops b i=true:=by kernel_rfl)(hr:(Region.ready md ops b).contains i=true:=by kernel_rfl)
  (l:∀c a w,Q (.panic c) (a.put d v) w->Q (.panic c) a w:=by exact fun _ _ _ h=>h):wpAnyH P md ops Q S (e+1) b a w:=
 BY i d hi hd hs k hr l g (.inl ⟨j,hc⟩) h
end
section
theorem dB {P:A3}{ops:Array A4}{Q:Exit->Act->A5->Prop}{md:Region.Mode}{S:A5->Prop}(i j k:Nat){l s t:A4}(d:Option Tmp){v:A0}{g:Nat}{e:Array Bool}{a:Act}{w:A5}
  (hi:ops[i]? =some l)(hj:ops[j]? =some s)(hk:ops[k]? =some t)(hd:l.dst=d)(hs:Region.noSelect ops=true)(E:l.apart ops s=true)(F:l.apart ops t=true)
  (B:∀c a w,Q (.panic c) (a.put d v) w->Q (.panic c) a w)
  (G:Region.ready md ops e=[i,j])(r1:Region.ready md ops (e.setIfInBounds i true)=[j])(r2:Region.ready md ops (e.setIfInBounds j true)=[i,k])
  (r3:Region.ready md ops ((e.setIfInBounds i true).setIfInBounds j true)=[k])(H:Region.ready md ops ((e.setIfInBounds j true).setIfInBounds k true)=[i])
  (m:i≠j)(u:i≠k)(I:S w)(C:YieldsIf P ops S l v a)
  (h:wpOp P ops Q j (fun A p=>S p/\wpOp P ops Q k (fun q n=>S n/\wpAny P md ops Q g (((e.setIfInBounds i true).setIfInBounds j true).setIfInBounds k true) q n) A p) (a.put d v) w):
  wpAny P md ops Q (g+3) e a w:=by
 subst hd;have r:=Region.noSelect_spec hs;refine Lw G xV fun x D=>?_;simp only[Ls,Lt,Lv] at D;rcases D with rfl|rfl
 ·refine C.wpOp hi I (Lw r1 xV fun y f=>?_);obtain rfl:y=j:=by simpa using f
  refine Lx (fun A p h1=>?_) h;refine Lw r3 xV fun z o=>?_;obtain rfl:z=k:=by simpa using o
  exact Lx (fun q n h2=>h2.2) h1.2
 ·refine Lx (fun A p h1=>?_) (wpOp_putIf hj E (fun cs b=>r i l cs b hi) (fun cs b=>r x s cs b hj) B C h);obtain⟨y1,J,h1⟩:=h1;refine Lw r2 xV fun y f=>?_;simp only[Ls,Lt,Lv] at f;rcases f with rfl|rfl
  ·refine y1.wpOp hi J ?_;rw[Lu _ _ m.symm];refine Lw r3 xV fun z o=>?_;obtain rfl:z=k:=by simpa using o
   exact Lx (fun q n h2=>h2.2) h1
  ·refine Lx (fun q n h2=>?_) (wpOp_putIf hk F (fun cs b=>r i l cs b hi) (fun cs b=>r y t cs b hk) B y1 h1);obtain⟨y2,K,h2⟩:=h2;refine Lw H xV fun z o=>?_;obtain rfl:z=i:=by simpa using o
   refine y2.wpOp hi K ?_;rw[show (((e.setIfInBounds x true).setIfInBounds y true).setIfInBounds z true)=(((e.setIfInBounds z true).setIfInBounds x true).setIfInBounds y true) by
    rw[Lu _ _ u.symm,Lu _ _ m.symm]]
   exact h2
end
end Go.Proofs.YtjjmalchelniiaaGreatDoor
