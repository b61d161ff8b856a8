/- The levels and the values of any cell, by any quantiser, are what the document's own answer says, or there are none; and the chapter's example comes out. Conditions: none but the law's own (up to 100 events a block), and the card's: what the listed variables hold when the call begins. -/
import Derived.Test.YtkgabfmjfhljdaaDoorResidueLevelsMe
import Derived.Test.YtkgabfmjfhljdaaDoorResidueLevelsMbm
import Derived.Test.YtkgabfmjfhljdaaDoorCards
import Derived.Test.YtkgabfmjfhljdaaDoorTie
import Derived.Lay
import Derived.RegionTactic
import Derived.ProofKit
import Derived.LaidMore
import Derived.OpenShut
import Derived.SizedLaws
import Derived.SevenTiedAt
import Derived.Stop.Joined
namespace Go.Proofs.YtkgabfmjfhljdaaDoor
open Go.RowKit Go.Lib Go.ChangeShapes Go.WideShapes Go.ChangeAt
theorem residueLevels_own:ownKnob Tryd.prog.godebug=none:=by kernel_rfl
theorem residueLevels_laid:laidOutB Tryd.prog=true:=by kernel_rfl
theorem residueLevels_reads:Tryd.f3.params.toList.all (fun t=>Tryd.prog.readableRec t&&decide (t<Tryd.prog.types.size))=true:=by kernel_rfl
set_option maxRecDepth 100000 in
theorem residueLevels_lifted (os:Os)(started:os.Started)(H:Type)(enc:TypeId×Value→H):
  ReturnsInHanded {} Tryd.checked os 3 .any (fun w args=>(Rows.residueLevelsSpec.pre enc Tryd.prog Tryd.f3 Rows.residueLevelsRow.domain false w args∧laidMetH Tryd.prog Rows.residueLevelsRow.laid w)∧sizedMet enc Tryd.prog Tryd.f3 (OpenSpec.ofChange Rows.residueLevelsSpec) false w args)
   (Rows.residueLevelsSpec.post enc Tryd.prog Tryd.f3 false true false false):=by
 refine returnsInHanded_of_change_and (C:=Tryd.checked) (X:=fun w _=>laidMetH Tryd.prog Rows.residueLevelsRow.laid w) (fun _ _ _ hh h=>h.of_heap hh) residueLevels_own started (by kernel_rfl) Tryd.func3
  (ChangeSpec.witness_shaped (enc:=enc) (C:=Tryd.checked) (os:=os) (X:=fun w _=>laidMetH Tryd.prog Rows.residueLevelsRow.laid w) false (World.laidAll Tryd.prog os Rows.residueLevelsRow.laid) #[.agg (Ycc Yoc Yo8).toArray,.int .i64 0] 8 (World.laidAll_os _ _ _)
   (World.shaped_of_ZipB (by kernel_rfl) (by kernel_rfl)) (by kernel_rfl) (by kernel_rfl) (by kernel_rfl)
   (by rw[MakeChecks.laidMetH_plain _ _ _ (by kernel_rfl)];exact laidMet_laidAll _ (by kernel_rfl) (by kernel_rfl))) ?_
 intro W base args ds gs before hval0 hW _ hsz0 hL _;have hval:∀(j:Nat) t v,Tryd.f3.params[j]? =some t→args[j]? =some v→Value.okWide Tryd.prog W .any base t v:=hval0;have hW':=hW;obtain⟨p,q,hA0,hV,rfl,hfz,hnd⟩:=hW;have hA:DataW.TrodAll enc Tryd.prog W 0 (fun _=>true) true Tryd.f3.params.toList args.toList ds p:=hA0;rw[Tryd.params3] at hA hval
 obtain⟨v0,vs0,d0,ds0,p0,q0,hargs,rfl,rfl,h0,r0⟩:=trodAll_cons hA;obtain⟨v1,vs1,d1,ds1,p1,q1,rfl,rfl,rfl,h1,r1⟩:=trodAll_cons r0;obtain⟨rfl,rfl,rfl⟩:=trodAll_nil r1;obtain rfl:args=#[v0,v1]:=by cases args;simp_all
 obtain⟨rfl,rfl⟩:=trodVars_none hV
 obtain⟨k0,p0',n0,c0,rfl,w0⟩:=Yne 3 Yeq Tryd.underlying27 Tryd.underlying4 Tryd.underlying3 Tryd.underlying22 Tryd.underlying23 Tryd.underlying25 Tryd.underlying24 ⟨rfl,rfl,rfl,rfl,rfl,rfl,rfl⟩ ⟨rfl,rfl,rfl,rfl,rfl,rfl,rfl⟩ (by kernel_rfl) (by kernel_rfl) (by kernel_rfl) (by kernel_rfl) (by kernel_rfl) (by kernel_rfl) (by kernel_rfl) (by kernel_rfl) (by decide) (Yk5 Tryd.underlying42 Tryd.underlying4 Tryd.underlying3 rfl rfl rfl rfl rfl rfl (by kernel_rfl) (by kernel_rfl)) (hval 0 27 v0 rfl rfl) h0
 obtain⟨a1,rfl,rfl,rfl,w1⟩:=open_int Tryd.underlying3 (hval 1 3 v1 rfl rfl) h1;clear hA0 hval0;refine(Ydx k0 p0' n0 c0 a1 W w0 w1 (Yns hL ⟨by simp[Rows.residueLevelsRow],by kernel_rfl⟩)).mono fun e W' ⟨he,hb⟩=>?_;subst he;exact⟨_,rfl,Yos residueLevels_laid residueLevels_reads rfl Tryd.underlying4 rfl hW' rfl hb⟩
theorem residueLevels_j1:(Rows.residueLevelsRow.inPlace==Tryd.prog.inPlace 3)=true:=by kernel_rfl
theorem residueLevels_j2:(Rows.residueLevelsRow.unfollowed==Tryd.prog.unfollowed 3)=true:=by kernel_rfl
theorem residueLevels_j3:(Rows.residueLevelsRow.recurses==Tryd.prog.recurses 3)=true:=by kernel_rfl
theorem residueLevels_j4:(Rows.residueLevelsRow.named==Tryd.prog.varsNamed 3)=true:=by kernel_rfl
theorem residueLevels_joined:joinedFacts Tryd.prog 3 Tryd.f3 Rows.residueLevelsSpec Rows.residueLevelsRow=true:=by
 unfold joinedFacts;rw[residueLevels_j1,residueLevels_j2,residueLevels_j3,residueLevels_j4]
 kernel_rfl
theorem residueLevels_over:Rows.residueLevelsRow.holds Tryd.pinned (OpenSpec.ofChange Rows.residueLevelsSpec):=
 OpenClaim.holds_of_wide 3 Tryd.f3 rfl rfl rfl rfl rfl rfl rfl ⟨rfl,rfl,rfl,rfl,rfl⟩ rfl rfl rfl rfl rfl (by kernel_rfl) Tryd.func3 residueLevels_joined
  (of_decide_eq_true (by kernel_rfl)) (by unfold Func.isWrapper;first|(rw[if_pos (by decide +kernel)];kernel_rfl)|(rw[if_neg (by decide +kernel)];exact⟨rfl,rfl⟩))
  (fun os started H enc _=>residueLevels_lifted os started H enc)
theorem residueLevels_holds:Rows.ResidueLevelsCardSaid:=
 Claim7.holds_tied_plain_at .later [] [.data,.data,.data,.data,.data,.data] true Rows.residueLevelsCard.stood.harness false residueLevels_over (fun _ h=>by cases h) (by kernel_rfl) (fun _ h=>by cases h) residueLevels_row_tie rfl ⟨rfl,rfl⟩ (by kernel_rfl) rfl
  (fun f fn hf hfn=>by
   obtain rfl : f = 3 := Option.some.inj ((show Tryd.prog.funcNamed "overspill/overspilllaw29.ResidueLevels" = some 3 by kernel_rfl).symm.trans hf) |>.symm
   obtain rfl:fn=Tryd.f3:=(Option.some.inj (Tryd.func3.symm.trans hfn)).symm;exact⟨by kernel_rfl,fun j t ht=>by
    rw[Tryd.params3] at ht;have hm:t∈[27,3]:=by simpa using Array.mem_of_getElem? ht
    have Ypm:([27,3].all fun u=>!Tryd.prog.wantsStandIn u)=true:=by kernel_rfl
    exact(show Tryd.prog.wantsStandIn t=false by simpa using List.all_eq_true.1 Ypm t hm)⟩)
  (by kernel_rfl)
#print axioms residueLevels_holds
end Go.Proofs.YtkgabfmjfhljdaaDoor
