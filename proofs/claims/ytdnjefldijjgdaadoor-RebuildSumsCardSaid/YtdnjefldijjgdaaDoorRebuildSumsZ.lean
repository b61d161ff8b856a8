/- Any two patches together are what the document's own answer says; and the chapter's example comes out. Conditions: none but the card's: what the listed variables hold when the call begins. -/
import Derived.Test.YtdnjefldijjgdaaDoorRebuildSumsMe
import Derived.Test.YtdnjefldijjgdaaDoorRebuildSumsMbb
import Derived.Test.YtdnjefldijjgdaaDoorRebuildSumsMbo
import Derived.Test.YtdnjefldijjgdaaDoorRebuildSumsMbp
import Derived.Test.YtdnjefldijjgdaaDoorCards
import Derived.Test.YtdnjefldijjgdaaDoorTie
import Derived.Lay
import Derived.RegionTactic
import Derived.ProofKit
import Derived.LaidMore
import Derived.OpenShut
import Derived.SizedLaws
import Derived.SevenTiedAt
import Derived.Stop.Joined
namespace Go.Proofs.YtdnjefldijjgdaaDoor
open Go.RowKit Go.Lib Go.ChangeShapes Go.WideShapes Go.ChangeAt
theorem rebuildSums_own:ownKnob Tryd.prog.godebug=none:=by kernel_rfl
theorem rebuildSums_laid:laidOutB Tryd.prog=true:=by kernel_rfl
theorem rebuildSums_reads:Tryd.f3.params.toList.all (fun t=>Tryd.prog.readableRec t&&decide (t<Tryd.prog.types.size))=true:=by kernel_rfl
set_option maxRecDepth 100000 in
theorem rebuildSums_lifted (os:Os)(started:os.Started)(H:Type)(enc:TypeId×Value→H):
  ReturnsInHanded {} Tryd.checked os 3 .any (fun w args=>(Rows.rebuildSumsSpec.pre enc Tryd.prog Tryd.f3 Rows.rebuildSumsRow.domain false w args∧laidMetH Tryd.prog Rows.rebuildSumsRow.laid w)∧sizedMet enc Tryd.prog Tryd.f3 (OpenSpec.ofChange Rows.rebuildSumsSpec) false w args)
   (Rows.rebuildSumsSpec.post enc Tryd.prog Tryd.f3 false true false false):=by
 refine returnsInHanded_of_change_and (C:=Tryd.checked) (X:=fun w _=>laidMetH Tryd.prog Rows.rebuildSumsRow.laid w) (fun _ _ _ hh h=>h.of_heap hh) rebuildSums_own started (by kernel_rfl) Tryd.func3
  (ChangeSpec.witness_shaped (enc:=enc) (C:=Tryd.checked) (os:=os) (X:=fun w _=>laidMetH Tryd.prog Rows.rebuildSumsRow.laid w) false (World.laidAll Tryd.prog os Rows.rebuildSumsRow.laid) #[.agg (arn 384 fun _=>0),.agg (arn 384 fun _=>0)] 8 (World.laidAll_os _ _ _)
   (World.shaped_of_ZipB (by kernel_rfl) (by kernel_rfl)) (by kernel_rfl) (by kernel_rfl) (by kernel_rfl)
   (by rw[MakeChecks.laidMetH_plain _ _ _ (by kernel_rfl)];exact laidMet_laidAll _ (by kernel_rfl) (by kernel_rfl))) ?_
 intro W base args ds gs before hval0 hW _ hsz0 hL _;have hval:∀(j:Nat) t v,Tryd.f3.params[j]? =some t→args[j]? =some v→Value.okWide Tryd.prog W .any base t v:=hval0;have hW':=hW;obtain⟨p,q,hA0,hV,rfl,hfz,hnd⟩:=hW;have hA:DataW.TrodAll enc Tryd.prog W 0 (fun _=>true) true Tryd.f3.params.toList args.toList ds p:=hA0;rw[Tryd.params3] at hA hval
 obtain⟨v0,vs0,d0,ds0,p0,q0,hargs,rfl,rfl,h0,r0⟩:=trodAll_cons hA;obtain⟨v1,vs1,d1,ds1,p1,q1,rfl,rfl,rfl,h1,r1⟩:=trodAll_cons r0;obtain⟨rfl,rfl,rfl⟩:=trodAll_nil r1;obtain rfl:args=#[v0,v1]:=by cases args;simp_all
 obtain⟨rfl,rfl⟩:=trodVars_none hV;obtain⟨f0,rfl,w0⟩:=Yfp Tryd.underlying24 Tryd.underlying22 Tryd.underlying3 (by kernel_rfl) (by kernel_rfl) (by kernel_rfl) (hval 0 24 v0 rfl rfl) h0;obtain⟨f1,rfl,w1⟩:=Yfp Tryd.underlying24 Tryd.underlying22 Tryd.underlying3 (by kernel_rfl) (by kernel_rfl) (by kernel_rfl) (hval 1 24 v1 rfl rfl) h1;clear hA0 hval0
 refine(Yd8 f0 f1 W w0 w1 (Yop hL ⟨by simp[Rows.rebuildSumsRow],by kernel_rfl⟩)).mono fun e W' ⟨he,hb⟩=>?_;subst he;exact⟨_,rfl,Ypo rebuildSums_laid rebuildSums_reads rfl Tryd.underlying4 rfl hW' rfl hb⟩
theorem rebuildSums_j1:(Rows.rebuildSumsRow.inPlace==Tryd.prog.inPlace 3)=true:=by kernel_rfl
theorem rebuildSums_j2:(Rows.rebuildSumsRow.unfollowed==Tryd.prog.unfollowed 3)=true:=by kernel_rfl
theorem rebuildSums_j3:(Rows.rebuildSumsRow.recurses==Tryd.prog.recurses 3)=true:=by kernel_rfl
theorem rebuildSums_j4:(Rows.rebuildSumsRow.named==Tryd.prog.varsNamed 3)=true:=by kernel_rfl
theorem rebuildSums_joined:joinedFacts Tryd.prog 3 Tryd.f3 Rows.rebuildSumsSpec Rows.rebuildSumsRow=true:=by
 unfold joinedFacts;rw[rebuildSums_j1,rebuildSums_j2,rebuildSums_j3,rebuildSums_j4]
 kernel_rfl
theorem rebuildSums_over:Rows.rebuildSumsRow.holds Tryd.pinned (OpenSpec.ofChange Rows.rebuildSumsSpec):=
 OpenClaim.holds_of_wide 3 Tryd.f3 rfl rfl rfl rfl rfl rfl rfl ⟨rfl,rfl,rfl,rfl,rfl⟩ rfl rfl rfl rfl rfl (by kernel_rfl) Tryd.func3 rebuildSums_joined
  (of_decide_eq_true (by kernel_rfl)) (by unfold Func.isWrapper;first|(rw[if_pos (by decide +kernel)];kernel_rfl)|(rw[if_neg (by decide +kernel)];exact⟨rfl,rfl⟩))
  (fun os started H enc _=>rebuildSums_lifted os started H enc)
theorem rebuildSums_holds:Rows.RebuildSumsCardSaid:=
 Claim7.holds_tied_plain_at .later [] [.data,.data,.data,.data,.data,.data] true Rows.rebuildSumsCard.stood.harness false rebuildSums_over (fun _ h=>by cases h) (by kernel_rfl) (fun _ h=>by cases h) rebuildSums_row_tie rfl ⟨rfl,rfl⟩ (by kernel_rfl) rfl
  (fun f fn hf hfn=>by
   obtain rfl : f = 3 := Option.some.inj ((show Tryd.prog.funcNamed "overspill/overspilllaw31.RebuildSums" = some 3 by kernel_rfl).symm.trans hf) |>.symm
   obtain rfl:fn=Tryd.f3:=(Option.some.inj (Tryd.func3.symm.trans hfn)).symm;exact⟨by kernel_rfl,fun j t ht=>by
    rw[Tryd.params3] at ht;have hm:t∈[24,24]:=by simpa using Array.mem_of_getElem? ht
    have Yqt:([24,24].all fun u=>!Tryd.prog.wantsStandIn u)=true:=by kernel_rfl
    exact(show Tryd.prog.wantsStandIn t=false by simpa using List.all_eq_true.1 Yqt t hm)⟩)
  (by kernel_rfl)
#print axioms rebuildSums_holds
end Go.Proofs.YtdnjefldijjgdaaDoor
