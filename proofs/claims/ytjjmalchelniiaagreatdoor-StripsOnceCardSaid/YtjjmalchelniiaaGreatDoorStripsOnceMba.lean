/- Part 27 of StripsOnce. No condition. -/
import Derived.Deep.RegionHeld
import Derived.KernelRfl
namespace Go.Proofs.YtjjmalchelniiaaGreatDoor
theorem Yaw {P:Program}{ops:Array Oper}{Q:Exit→Act→World→Prop}{md:Region.Mode}{S:World→Prop}(i:Nat){oi:Oper}(d:Option Tmp){v:Value}{fuel:Nat}{listed:Array Bool}{a:Act}{w:World}(hi:ops[i]? =some oi)(hd:oi.dst=d)
  (hs:Region.noSelect ops=true)(hf:Region.free md ops listed i=true)(hr:(Region.ready md ops listed).contains i=true)
  (hQ:∀c a w,Q (.panic c) (a.put d v) w→Q (.panic c) a w)(hS:S w)(hy:YieldsIf P ops S oi v a)
  (h:wpAnyH P md ops Q S fuel (listed.setIfInBounds i true) (a.put d v) w):wpAnyH P md ops Q S (fuel+1) listed a w:=by
 subst hd;exact wpAnyH_take hi hs hf hr hQ hy hS h
end Go.Proofs.YtjjmalchelniiaaGreatDoor
namespace Go.Proofs.YtjjmalchelniiaaGreatDoor
open Go
theorem Yco {P:Program}{ops:Array Oper}{Q:Exit→Act→World→Prop}{md:Region.Mode}{S:World→Prop}(i:Nat){oi:Oper}(d:Option Tmp){v:Value}{fuel:Nat}{listed:Array Bool}{a:Act}{w:World}(hi:ops[i]? =some oi)(hd:oi.dst=d)(hS:S w)
  (hw:Region.wanted oi (yielded ops a.tmps)=true)(hc:∀x,S x→(execOp a.eval oi).run P x=.ok (.value v) x)(h:wpAnyH P md ops Q S fuel (listed.setIfInBounds i true) (a.put d v) w)
  (hs:Region.noSelect ops=true:=by kernel_rfl)(hf:Region.free md ops listed i=true:=by kernel_rfl)(hr:(Region.ready md ops listed).contains i=true:=by kernel_rfl)
  (hQ:∀c a w,Q (.panic c) (a.put d v) w→Q (.panic c) a w:=by exact fun _ _ _ h=>h):wpAnyH P md ops Q S (fuel+1) listed a w:=
 Yaw i d hi hd hs hf hr hQ hS (.inl ⟨hw,hc⟩) h
theorem Yah {P:Program}{ops:Array Oper}{Q:Exit→Act→World→Prop}{md:Region.Mode}{S:World→Prop}(i:Nat){oi:Oper}(d:Option Tmp){v:Value}{fuel:Nat}{listed:Array Bool}{a:Act}{w:World}(hS:S w)(h:wpAnyH P md ops Q S fuel (listed.setIfInBounds i true) (a.put d v) w)
  (hi:ops[i]? =some oi:=by exact rfl)(hd:oi.dst=d:=by exact rfl)(hw:Region.wanted oi (yielded ops a.tmps)=true:=by kernel_rfl)(hc:∀x,S x→(execOp a.eval oi).run P x=.ok (.value v) x:=by intro x _;go_simp;try with_reducible rfl)
  (hs:Region.noSelect ops=true:=by kernel_rfl)(hf:Region.free md ops listed i=true:=by kernel_rfl)(hr:(Region.ready md ops listed).contains i=true:=by kernel_rfl)
  (hQ:∀c a w,Q (.panic c) (a.put d v) w→Q (.panic c) a w:=by exact fun _ _ _ h=>h):wpAnyH P md ops Q S (fuel+1) listed a w:=
 Yaw i d hi hd hs hf hr hQ hS (.inl ⟨hw,hc⟩) h
end Go.Proofs.YtjjmalchelniiaaGreatDoor
namespace Go.Proofs.YtjjmalchelniiaaGreatDoor
theorem Y03 {P:Program}{ops:Array Oper}{Q:Exit→Act→World→Prop}{md:Region.Mode}{S:World→Prop}(i j k:Nat){oi oj ok:Oper}(d:Option Tmp){v:Value}{fuel:Nat}{listed:Array Bool}{a:Act}{w:World}
  (hi:ops[i]? =some oi)(hj:ops[j]? =some oj)(hk:ops[k]? =some ok)(hd:oi.dst=d)(hs:Region.noSelect ops=true)(aj:oi.apart ops oj=true)(ak:oi.apart ops ok=true)
  (hQ:∀c a w,Q (.panic c) (a.put d v) w→Q (.panic c) a w)
  (r0:Region.ready md ops listed=[i,j])(r1:Region.ready md ops (listed.setIfInBounds i true)=[j])(r2:Region.ready md ops (listed.setIfInBounds j true)=[i,k])
  (r3:Region.ready md ops ((listed.setIfInBounds i true).setIfInBounds j true)=[k])(r4:Region.ready md ops ((listed.setIfInBounds j true).setIfInBounds k true)=[i])
  (nij:i≠j)(nik:i≠k)(hS:S w)(hy:YieldsIf P ops S oi v a)
  (h:wpOp P ops Q j (fun a1 w1=>S w1∧wpOp P ops Q k (fun a2 w2=>S w2∧wpAny P md ops Q fuel (((listed.setIfInBounds i true).setIfInBounds j true).setIfInBounds k true) a2 w2) a1 w1) (a.put d v) w):
  wpAny P md ops Q (fuel+3) listed a w:=by
 subst hd;have ss:=Region.noSelect_spec hs;refine wpAny_all r0 (by simp) fun x hx=>?_;simp only[List.mem_cons,List.not_mem_nil,or_false] at hx;rcases hx with rfl|rfl
 ·refine hy.wpOp hi hS (wpAny_all r1 (by simp) fun y hy'=>?_);obtain rfl:y=j:=by simpa using hy'
  refine wpOp_mono (fun a1 w1 h1=>?_) h;refine wpAny_all r3 (by simp) fun z hz=>?_;obtain rfl:z=k:=by simpa using hz
  exact wpOp_mono (fun a2 w2 h2=>h2.2) h1.2
 ·refine wpOp_mono (fun a1 w1 h1=>?_) (wpOp_putIf hj aj (fun cs b=>ss i oi cs b hi) (fun cs b=>ss x oj cs b hj) hQ hy h);obtain⟨y1,s1,h1⟩:=h1;refine wpAny_all r2 (by simp) fun y hy'=>?_;simp only[List.mem_cons,List.not_mem_nil,or_false] at hy';rcases hy' with rfl|rfl
  ·refine y1.wpOp hi s1 ?_;rw[Array.setIfInBounds_comm _ _ nij.symm];refine wpAny_all r3 (by simp) fun z hz=>?_;obtain rfl:z=k:=by simpa using hz
   exact wpOp_mono (fun a2 w2 h2=>h2.2) h1
  ·refine wpOp_mono (fun a2 w2 h2=>?_) (wpOp_putIf hk ak (fun cs b=>ss i oi cs b hi) (fun cs b=>ss y ok cs b hk) hQ y1 h1);obtain⟨y2,s2,h2⟩:=h2;refine wpAny_all r4 (by simp) fun z hz=>?_;obtain rfl:z=i:=by simpa using hz
   refine y2.wpOp hi s2 ?_;rw[show (((listed.setIfInBounds x true).setIfInBounds y true).setIfInBounds z true)=(((listed.setIfInBounds z true).setIfInBounds x true).setIfInBounds y true) by
    rw[Array.setIfInBounds_comm _ _ nik.symm,Array.setIfInBounds_comm _ _ nij.symm]]
   exact h2
end Go.Proofs.YtjjmalchelniiaaGreatDoor