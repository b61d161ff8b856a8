/- A sheet all cells of which are skipped changes nothing; and the chapter's examples come out. Conditions: none but the law's own (planes of up to 30,000 samples) and the card's: what the listed variables hold when the call begins. -/
import Derived.Test.YtnamlooifcpoaaaGreatDoorScreensStillMd
import Derived.Test.YtnamlooifcpoaaaGreatDoorScreensStillMby
import Derived.Test.YtnamlooifcpoaaaGreatDoorScreensStillMbz
import Derived.Test.YtnamlooifcpoaaaGreatDoorCards
import Derived.Test.YtnamlooifcpoaaaGreatDoorTie
import Derived.Lay
import Derived.RegionTactic
import Derived.ProofKit
import Derived.LaidMore
import Derived.OpenShut
import Derived.SizedLaws
import Derived.SevenTiedAt
import Derived.Stop.Joined
namespace Go.Proofs.YtnamlooifcpoaaaGreatDoor
open Go.RowKit Go.Lib Go.ChangeShapes Go.WideShapes Go.ChangeAt
theorem screensStill_own:ownKnob Tryz.prog.godebug=none:=by kernel_rfl
theorem screensStill_laid:laidOutB Tryz.prog=true:=by kernel_rfl
theorem screensStill_reads:Tryz.f4.params.toList.all (fun t=>Tryz.prog.readableRec t&&decide (t<Tryz.prog.types.size))=true:=by kernel_rfl
set_option maxRecDepth 100000 in
theorem screensStill_lifted (os:Os)(started:os.Started)(H:Type)(enc:TypeId×Value→H):
  ReturnsInHanded {} Tryz.checked os 4 .any (fun w args=>(Rows.screensStillSpec.pre enc Tryz.prog Tryz.f4 Rows.screensStillRow.domain false w args∧laidMetH Tryz.prog Rows.screensStillRow.laid w)∧sizedMet enc Tryz.prog Tryz.f4 (OpenSpec.ofChange Rows.screensStillSpec) false w args)
   (Rows.screensStillSpec.post enc Tryz.prog Tryz.f4 false true false false):=by
 refine returnsInHanded_of_change_and (C:=Tryz.checked) (X:=fun w _=>laidMetH Tryz.prog Rows.screensStillRow.laid w) (fun _ _ _ hh h=>h.of_heap hh) screensStill_own started (by kernel_rfl) Tryz.func4
  (ChangeSpec.witness_shaped (enc:=enc) (C:=Tryz.checked) (os:=os) (X:=fun w _=>laidMetH Tryz.prog Rows.screensStillRow.laid w) false (World.laidAll Tryz.prog os Rows.screensStillRow.laid) #[.agg (frA 0 Ycc),.int .i64 0,.int .i64 0] 8 (World.laidAll_os _ _ _)
   (World.shaped_of_ZipB (by kernel_rfl) (by kernel_rfl)) (by kernel_rfl) (by kernel_rfl) (by kernel_rfl)
   (by rw[MakeChecks.laidMetH_plain _ _ _ (by kernel_rfl)];exact laidMet_laidAll _ (by kernel_rfl) (by kernel_rfl))) ?_
 intro W base args ds gs before hval0 hW _ hsz0 hL _;have hval:∀(j:Nat) t v,Tryz.f4.params[j]? =some t→args[j]? =some v→Value.okWide Tryz.prog W .any base t v:=hval0;have hW':=hW;obtain⟨p,q,hA0,hV,rfl,hfz,hnd⟩:=hW;have hA:DataW.TrodAll enc Tryz.prog W 0 (fun _=>true) true Tryz.f4.params.toList args.toList ds p:=hA0;rw[Tryz.params4] at hA hval
 obtain⟨v0,vs0,d0,ds0,p0,q0,hargs,rfl,rfl,h0,r0⟩:=trodAll_cons hA;obtain⟨v1,vs1,d1,ds1,p1,q1,rfl,rfl,rfl,h1,r1⟩:=trodAll_cons r0;obtain⟨v2,vs2,d2,ds2,p2,q2,rfl,rfl,rfl,h2,r2⟩:=trodAll_cons r1;obtain⟨rfl,rfl,rfl⟩:=trodAll_nil r2;obtain rfl:args=#[v0,v1,v2]:=by cases args;simp_all
 obtain⟨rfl,rfl⟩:=trodVars_none hV;obtain⟨a0,v0',n0,f0,rfl,w0,x0,y0⟩:=Yqa Tryz.underlying25 Tryz.underlying3 Tryz.underlying23 Tryz.underlying22 Tryz.underlying5 rfl rfl rfl rfl (by kernel_rfl) (by kernel_rfl) (by kernel_rfl) (by kernel_rfl) (by kernel_rfl) (hval 0 25 v0 rfl rfl) h0;obtain⟨a1,rfl,rfl,rfl,w1⟩:=open_int Tryz.underlying3 (hval 1 3 v1 rfl rfl) h1
 obtain⟨a2,rfl,rfl,rfl,w2⟩:=open_int Tryz.underlying3 (hval 2 3 v2 rfl rfl) h2;clear hA0 hval0;refine(Yge a0 v0' n0 f0 a1 a2 W w0 x0 y0 w1 w2 (Yw9 hL ⟨by simp[Rows.screensStillRow],by kernel_rfl⟩)).mono fun e W' ⟨he,hb⟩=>?_;subst he;exact⟨_,rfl,Yyz screensStill_laid screensStill_reads rfl Tryz.underlying4 rfl hW' rfl hb⟩
theorem screensStill_j1:(Rows.screensStillRow.inPlace==Tryz.prog.inPlace 4)=true:=by kernel_rfl
theorem screensStill_j2:(Rows.screensStillRow.unfollowed==Tryz.prog.unfollowed 4)=true:=by kernel_rfl
theorem screensStill_j3:(Rows.screensStillRow.recurses==Tryz.prog.recurses 4)=true:=by kernel_rfl
theorem screensStill_j4:(Rows.screensStillRow.named==Tryz.prog.varsNamed 4)=true:=by kernel_rfl
theorem screensStill_joined:joinedFacts Tryz.prog 4 Tryz.f4 Rows.screensStillSpec Rows.screensStillRow=true:=by
 unfold joinedFacts;rw[screensStill_j1,screensStill_j2,screensStill_j3,screensStill_j4]
 kernel_rfl
theorem screensStill_over:Rows.screensStillRow.holds Tryz.pinned (OpenSpec.ofChange Rows.screensStillSpec):=
 OpenClaim.holds_of_wide 4 Tryz.f4 rfl rfl rfl rfl rfl rfl rfl ⟨rfl,rfl,rfl,rfl,rfl⟩ rfl rfl rfl rfl rfl (by kernel_rfl) Tryz.func4 screensStill_joined
  (of_decide_eq_true (by kernel_rfl)) (by unfold Func.isWrapper;first|(rw[if_pos (by decide +kernel)];kernel_rfl)|(rw[if_neg (by decide +kernel)];exact⟨rfl,rfl⟩))
  (fun os started H enc _=>screensStill_lifted os started H enc)
theorem screensStill_holds:Rows.ScreensStillCardSaid:=
 Claim7.holds_tied_plain_at .later [] [.data,.data,.data,.data,.data,.data] true Rows.screensStillCard.stood.harness false screensStill_over (fun _ h=>by cases h) (by kernel_rfl) (fun _ h=>by cases h) screensStill_row_tie rfl ⟨rfl,rfl⟩ (by kernel_rfl) rfl
  (fun f fn hf hfn=>by
   obtain rfl : f = 4 := Option.some.inj ((show Tryz.prog.funcNamed "overspill/overspilllaw32.ScreensStill" = some 4 by kernel_rfl).symm.trans hf) |>.symm
   obtain rfl:fn=Tryz.f4:=(Option.some.inj (Tryz.func4.symm.trans hfn)).symm;exact⟨by kernel_rfl,fun j t ht=>by
    rw[Tryz.params4] at ht;have hm:t∈[25,3,3]:=by simpa using Array.mem_of_getElem? ht
    have Yx1:([25,3,3].all fun u=>!Tryz.prog.wantsStandIn u)=true:=by kernel_rfl
    exact(show Tryz.prog.wantsStandIn t=false by simpa using List.all_eq_true.1 Yx1 t hm)⟩)
  (by kernel_rfl)
#print axioms screensStill_holds
end Go.Proofs.YtnamlooifcpoaaaGreatDoor
