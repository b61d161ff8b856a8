/- StripsChecks, 26. No condition. -/
import Derived.Deep.RegionHeld
open Go renaming Program->A3,Oper->A4,World->A5,Value->A0
namespace Go.Proofs.YtjjmalchelniiaaGreatDoor
section
abbrev Lh:=@List.mem_cons
abbrev Li:=@List.not_mem_nil
abbrev Lj:=@Array.setIfInBounds_comm
abbrev Lk:=@or_false
abbrev Ll:=@wpAny_all
abbrev Lm:=@wpOp_mono
theorem BQ {P:A3}{ops:Array A4}{Q:Exit->Act->A5->Prop}{md:Region.Mode}{S:A5->Prop}(i:Nat){f:A4}(d:Option Tmp){v:A0}{e:Nat}{b:Array Bool}{a:Act}{w:A5}(hi:ops[i]? =some f)(hd:f.dst=d)
  (hs:Region.noSelect ops=true)(g:Region.free md ops b i=true)(hr:(Region.ready md ops b).contains i=true)
  (j:∀c a w,Q (.panic c) (a.put d v) w->Q (.panic c) a w)(k:S w)(l:YieldsIf P ops S f v a)
  (h:wpAnyH P md ops Q S e (b.setIfInBounds i true) (a.put d v) w):wpAnyH P md ops Q S (e+1) b a w:=by
 subst hd;exact wpAnyH_take hi hs g hr j l k h
end
section
open Go
theorem F5 {P:A3}{ops:Array A4}{Q:Exit->Act->A5->Prop}{md:Region.Mode}{S:A5->Prop}(i:Nat){f:A4}(d:Option Tmp){v:A0}{e:Nat}{b:Array Bool}{a:Act}{w:A5}(hi:ops[i]? =some f)(hd:f.dst=d)(g:S w)
  (j:Region.wanted f (yielded ops a.tmps)=true)(hc:∀x,S x->(execOp a.eval f).run P x=.ok (.value v) x)(h:wpAnyH P md ops Q S e (b.setIfInBounds i true) (a.put d v) w)
  (hs:Region.noSelect ops=true:=by kernel_rfl)(k:Region.free md ops b i=true:=by kernel_rfl)(hr:(Region.ready md ops b).contains i=true:=by kernel_rfl)
  (l:∀c a w,Q (.panic c) (a.put d v) w->Q (.panic c) a w:=by exact fun _ _ _ h=>h):wpAnyH P md ops Q S (e+1) b a w:=
 BQ i d hi hd hs k hr l g (.inl ⟨j,hc⟩) h
theorem AL {P:A3}{ops:Array A4}{Q:Exit->Act->A5->Prop}{md:Region.Mode}{S:A5->Prop}(i:Nat){f:A4}(d:Option Tmp){v:A0}{e:Nat}{b:Array Bool}{a:Act}{w:A5}(g:S w)(h:wpAnyH P md ops Q S e (b.setIfInBounds i true) (a.put d v) w)
  (hi:ops[i]? =some f:=by exact rfl)(hd:f.dst=d:=by exact rfl)(j:Region.wanted f (yielded ops a.tmps)=true:=by kernel_rfl)(hc:∀x,S x->(execOp a.eval f).run P x=.ok (.value v) x:=by intro x _;go_simp;try with_reducible rfl)
  (hs:Region.noSelect ops=true:=by kernel_rfl)(k:Region.free md ops b i=true:=by kernel_rfl)(hr:(Region.ready md ops b).contains i=true:=by kernel_rfl)
  (l:∀c a w,Q (.panic c) (a.put d v) w->Q (.panic c) a w:=by exact fun _ _ _ h=>h):wpAnyH P md ops Q S (e+1) b a w:=
 BQ i d hi hd hs k hr l g (.inl ⟨j,hc⟩) h
end
section
theorem WY {P:A3}{ops:Array A4}{Q:Exit->Act->A5->Prop}{md:Region.Mode}{S:A5->Prop}(i j k:Nat){l s t:A4}(d:Option Tmp){v:A0}{g:Nat}{e:Array Bool}{a:Act}{w:A5}
  (hi:ops[i]? =some l)(hj:ops[j]? =some s)(B:ops[k]? =some t)(hd:l.dst=d)(hs:Region.noSelect ops=true)(F:l.apart ops s=true)(G:l.apart ops t=true)
  (C:∀c a w,Q (.panic c) (a.put d v) w->Q (.panic c) a w)
  (H:Region.ready md ops e=[i,j])(r1:Region.ready md ops (e.setIfInBounds i true)=[j])(r2:Region.ready md ops (e.setIfInBounds j true)=[i,k])
  (r3:Region.ready md ops ((e.setIfInBounds i true).setIfInBounds j true)=[k])(I:Region.ready md ops ((e.setIfInBounds j true).setIfInBounds k true)=[i])
  (m:i≠j)(u:i≠k)(J:S w)(D:YieldsIf P ops S l v a)
  (h:wpOp P ops Q j (fun A p=>S p/\wpOp P ops Q k (fun q n=>S n/\wpAny P md ops Q g (((e.setIfInBounds i true).setIfInBounds j true).setIfInBounds k true) q n) A p) (a.put d v) w):
  wpAny P md ops Q (g+3) e a w:=by
 subst hd;have r:=Region.noSelect_spec hs;refine Ll H (by simp) fun x E=>?_;simp only[Lh,Li,Lk] at E;rcases E with rfl|rfl
 ·refine D.wpOp hi J (Ll r1 (by simp) fun y f=>?_);obtain rfl:y=j:=by simpa using f
  refine Lm (fun A p h1=>?_) h;refine Ll r3 (by simp) fun z o=>?_;obtain rfl:z=k:=by simpa using o
  exact Lm (fun q n h2=>h2.2) h1.2
 ·refine Lm (fun A p h1=>?_) (wpOp_putIf hj F (fun cs b=>r i l cs b hi) (fun cs b=>r x s cs b hj) C D h);obtain⟨y1,K,h1⟩:=h1;refine Ll r2 (by simp) fun y f=>?_;simp only[Lh,Li,Lk] at f;rcases f with rfl|rfl
  ·refine y1.wpOp hi K ?_;rw[Lj _ _ m.symm];refine Ll r3 (by simp) fun z o=>?_;obtain rfl:z=k:=by simpa using o
   exact Lm (fun q n h2=>h2.2) h1
  ·refine Lm (fun q n h2=>?_) (wpOp_putIf B G (fun cs b=>r i l cs b hi) (fun cs b=>r y t cs b B) C y1 h1);obtain⟨y2,L,h2⟩:=h2;refine Ll I (by simp) fun z o=>?_;obtain rfl:z=i:=by simpa using o
   refine y2.wpOp hi L ?_;rw[show (((e.setIfInBounds x true).setIfInBounds y true).setIfInBounds z true)=(((e.setIfInBounds z true).setIfInBounds x true).setIfInBounds y true) by
    rw[Lj _ _ u.symm,Lj _ _ m.symm]]
   exact h2
end
end Go.Proofs.YtjjmalchelniiaaGreatDoor
