/- The frame of any sheet, over any frame, is what the document's own answer says, or what is wrong; and the chapter's examples come out. Conditions: none but the law's own (up to 200 cells, planes of up to 30,000 samples) and the card's: what the listed variables hold when the call begins. -/
import Derived.Test.YtnamlooifcpoaaaGreatDoorScreensNextMd
import Derived.Test.YtnamlooifcpoaaaGreatDoorScreensNextMbx
import Derived.Test.YtnamlooifcpoaaaGreatDoorScreensNextMbz
import Derived.Test.YtnamlooifcpoaaaGreatDoorCards
import Derived.Test.YtnamlooifcpoaaaGreatDoorTie
import Derived.Lay
import Derived.RegionTactic
import Derived.ProofKit
import Derived.LaidMore
import Derived.OpenShut
import Derived.SizedLaws
import Derived.SevenTiedAt
import Derived.Stop.Joined
namespace Go.Proofs.YtnamlooifcpoaaaGreatDoor
open Go.RowKit Go.Lib Go.ChangeShapes Go.WideShapes Go.ChangeAt
theorem screensNext_own:ownKnob Tryz.prog.godebug=none:=by kernel_rfl
theorem screensNext_laid:laidOutB Tryz.prog=true:=by kernel_rfl
theorem screensNext_reads:Tryz.f3.params.toList.all (fun t=>Tryz.prog.readableRec t&&decide (t<Tryz.prog.types.size))=true:=by kernel_rfl
set_option maxRecDepth 100000 in
theorem screensNext_lifted (os:Os)(started:os.Started)(H:Type)(enc:TypeId×Value→H):
  ReturnsInHanded {} Tryz.checked os 3 .any (fun w args=>(Rows.screensNextSpec.pre enc Tryz.prog Tryz.f3 Rows.screensNextRow.domain false w args∧laidMetH Tryz.prog Rows.screensNextRow.laid w)∧sizedMet enc Tryz.prog Tryz.f3 (OpenSpec.ofChange Rows.screensNextSpec) false w args)
   (Rows.screensNextSpec.post enc Tryz.prog Tryz.f3 false true false false):=by
 refine returnsInHanded_of_change_and (C:=Tryz.checked) (X:=fun w _=>laidMetH Tryz.prog Rows.screensNextRow.laid w) (fun _ _ _ hh h=>h.of_heap hh) screensNext_own started (by kernel_rfl) Tryz.func3
  (ChangeSpec.witness_shaped (enc:=enc) (C:=Tryz.checked) (os:=os) (X:=fun w _=>laidMetH Tryz.prog Rows.screensNextRow.laid w) false (World.laidAll Tryz.prog os Rows.screensNextRow.laid) #[.agg (frA 0 Ycf),.agg (Yaz shdZ (.slice none 0 0) (.slice none 0 0) 0).toArray] 8 (World.laidAll_os _ _ _)
   (World.shaped_of_ZipB (by kernel_rfl) (by kernel_rfl)) (by kernel_rfl) (by kernel_rfl) (by kernel_rfl)
   (by rw[MakeChecks.laidMetH_plain _ _ _ (by kernel_rfl)];exact laidMet_laidAll _ (by kernel_rfl) (by kernel_rfl))) ?_
 intro W base args ds gs before hval0 hW _ hsz0 hL _;have hval:∀(j:Nat) t v,Tryz.f3.params[j]? =some t→args[j]? =some v→Value.okWide Tryz.prog W .any base t v:=hval0;have hW':=hW;obtain⟨p,q,hA0,hV,rfl,hfz,hnd⟩:=hW;have hA:DataW.TrodAll enc Tryz.prog W 0 (fun _=>true) true Tryz.f3.params.toList args.toList ds p:=hA0;rw[Tryz.params3] at hA hval
 obtain⟨v0,vs0,d0,ds0,p0,q0,hargs,rfl,rfl,h0,r0⟩:=trodAll_cons hA;obtain⟨v1,vs1,d1,ds1,p1,q1,rfl,rfl,rfl,h1,r1⟩:=trodAll_cons r0;obtain⟨rfl,rfl,rfl⟩:=trodAll_nil r1;obtain rfl:args=#[v0,v1]:=by cases args;simp_all
 obtain⟨rfl,rfl⟩:=trodVars_none hV;obtain⟨a0,v0',n0,f0,rfl,w0,x0,y0⟩:=Ytt Tryz.underlying25 Tryz.underlying3 Tryz.underlying23 Tryz.underlying22 Tryz.underlying5 rfl rfl rfl rfl (by kernel_rfl) (by kernel_rfl) (by kernel_rfl) (by kernel_rfl) (by kernel_rfl) (hval 0 25 v0 rfl rfl) h0
 obtain⟨S1,vs1',rfl,x1⟩:=Ytu Tryz.underlying29 Tryz.underlying3 Tryz.underlying4 Tryz.underlying26 Tryz.underlying27 ⟨rfl,rfl,rfl,rfl,rfl,rfl,rfl,rfl⟩ ⟨rfl,rfl,rfl,rfl,rfl,rfl,rfl,rfl⟩ (by kernel_rfl) (by kernel_rfl) (by kernel_rfl) (by kernel_rfl) (by kernel_rfl) (by kernel_rfl) (Y2r Tryz.underlying42 Tryz.underlying4 Tryz.underlying3 Tryz.underlying40 ⟨rfl,rfl,rfl,rfl⟩ ⟨rfl,rfl,rfl,rfl⟩ (by kernel_rfl) (by kernel_rfl) (by kernel_rfl) (by kernel_rfl) (Y1v Tryz.underlying48 Tryz.underlying4 Tryz.underlying3 Tryz.underlying43 Tryz.underlying44 Tryz.underlying46 Tryz.underlying45 ⟨rfl,rfl,rfl,rfl,rfl,rfl,rfl⟩ ⟨rfl,rfl,rfl,rfl,rfl,rfl,rfl⟩ (by kernel_rfl) (by kernel_rfl) (by kernel_rfl) (by kernel_rfl) (by kernel_rfl) (by kernel_rfl) (by kernel_rfl) (Ywb Tryz.underlying169 Tryz.underlying4 Tryz.underlying3 rfl rfl rfl rfl rfl rfl (by kernel_rfl) (by kernel_rfl)))) (hval 1 29 v1 rfl rfl) h1
 clear hA0 hval0;refine(Yis a0 v0' n0 f0 S1 vs1' W w0 x0 y0 x1 (Y0r hL ⟨by simp[Rows.screensNextRow],by kernel_rfl⟩)).mono fun e W' ⟨he,hb⟩=>?_;subst he;exact⟨_,rfl,Y2b screensNext_laid screensNext_reads rfl Tryz.underlying4 rfl hW' rfl hb⟩
theorem screensNext_j1:(Rows.screensNextRow.inPlace==Tryz.prog.inPlace 3)=true:=by kernel_rfl
theorem screensNext_j2:(Rows.screensNextRow.unfollowed==Tryz.prog.unfollowed 3)=true:=by kernel_rfl
theorem screensNext_j3:(Rows.screensNextRow.recurses==Tryz.prog.recurses 3)=true:=by kernel_rfl
theorem screensNext_j4:(Rows.screensNextRow.named==Tryz.prog.varsNamed 3)=true:=by kernel_rfl
theorem screensNext_joined:joinedFacts Tryz.prog 3 Tryz.f3 Rows.screensNextSpec Rows.screensNextRow=true:=by
 unfold joinedFacts;rw[screensNext_j1,screensNext_j2,screensNext_j3,screensNext_j4]
 kernel_rfl
theorem screensNext_over:Rows.screensNextRow.holds Tryz.pinned (OpenSpec.ofChange Rows.screensNextSpec):=
 OpenClaim.holds_of_wide 3 Tryz.f3 rfl rfl rfl rfl rfl rfl rfl ⟨rfl,rfl,rfl,rfl,rfl⟩ rfl rfl rfl rfl rfl (by kernel_rfl) Tryz.func3 screensNext_joined
  (of_decide_eq_true (by kernel_rfl)) (by unfold Func.isWrapper;first|(rw[if_pos (by decide +kernel)];kernel_rfl)|(rw[if_neg (by decide +kernel)];exact⟨rfl,rfl⟩))
  (fun os started H enc _=>screensNext_lifted os started H enc)
theorem screensNext_holds:Rows.ScreensNextCardSaid:=
 Claim7.holds_tied_plain_at .later [] [.data,.data,.data,.data,.data,.data] true Rows.screensNextCard.stood.harness false screensNext_over (fun _ h=>by cases h) (by kernel_rfl) (fun _ h=>by cases h) screensNext_row_tie rfl ⟨rfl,rfl⟩ (by kernel_rfl) rfl
  (fun f fn hf hfn=>by
   obtain rfl : f = 3 := Option.some.inj ((show Tryz.prog.funcNamed "overspill/overspilllaw32.ScreensNext" = some 3 by kernel_rfl).symm.trans hf) |>.symm
   obtain rfl:fn=Tryz.f3:=(Option.some.inj (Tryz.func3.symm.trans hfn)).symm;exact⟨by kernel_rfl,fun j t ht=>by
    rw[Tryz.params3] at ht;have hm:t∈[25,29]:=by simpa using Array.mem_of_getElem? ht
    have Yh4:([25,29].all fun u=>!Tryz.prog.wantsStandIn u)=true:=by kernel_rfl
    exact(show Tryz.prog.wantsStandIn t=false by simpa using List.all_eq_true.1 Yh4 t hm)⟩)
  (by kernel_rfl)
#print axioms screensNext_holds
end Go.Proofs.YtnamlooifcpoaaaGreatDoor
