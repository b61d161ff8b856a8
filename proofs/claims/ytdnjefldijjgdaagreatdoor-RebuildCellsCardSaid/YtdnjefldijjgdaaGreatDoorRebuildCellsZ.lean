/- The samples of any cell, over any frame, by any quantiser, are what the document's own answer says, or what is wrong; and the chapter's example comes out. Conditions: none but the law's own (planes of up to 30,000 samples, up to 100 events a block), and the card's: what the listed variables hold when the call begins. -/
import Derived.Test.YtdnjefldijjgdaaGreatDoorRebuildCellsMe
import Derived.Test.YtdnjefldijjgdaaGreatDoorRebuildCellsMbd
import Derived.Test.YtdnjefldijjgdaaGreatDoorRebuildCellsMbs
import Derived.Test.YtdnjefldijjgdaaGreatDoorRebuildCellsMbt
import Derived.Test.YtdnjefldijjgdaaGreatDoorCards
import Derived.Test.YtdnjefldijjgdaaGreatDoorTie
import Derived.Lay
import Derived.RegionTactic
import Derived.ProofKit
import Derived.LaidMore
import Derived.OpenShut
import Derived.SizedLaws
import Derived.SevenTiedAt
import Derived.Stop.Joined
namespace Go.Proofs.YtdnjefldijjgdaaGreatDoor
open Go.RowKit Go.Lib Go.ChangeShapes Go.WideShapes Go.ChangeAt
theorem rebuildCells_own:ownKnob Tryz.prog.godebug=none:=by kernel_rfl
theorem rebuildCells_laid:laidOutB Tryz.prog=true:=by kernel_rfl
theorem rebuildCells_reads:Tryz.f3.params.toList.all (fun t=>Tryz.prog.readableRec t&&decide (t<Tryz.prog.types.size))=true:=by kernel_rfl
set_option maxRecDepth 100000 in
theorem rebuildCells_lifted (os:Os)(started:os.Started)(H:Type)(enc:TypeId×Value→H):
  ReturnsInHanded {} Tryz.checked os 3 .any (fun w args=>(Rows.rebuildCellsSpec.pre enc Tryz.prog Tryz.f3 Rows.rebuildCellsRow.domain false w args∧laidMetH Tryz.prog Rows.rebuildCellsRow.laid w)∧sizedMet enc Tryz.prog Tryz.f3 (OpenSpec.ofChange Rows.rebuildCellsSpec) false w args)
   (Rows.rebuildCellsSpec.post enc Tryz.prog Tryz.f3 false true false false):=by
 refine returnsInHanded_of_change_and (C:=Tryz.checked) (X:=fun w _=>laidMetH Tryz.prog Rows.rebuildCellsRow.laid w) (fun _ _ _ hh h=>h.of_heap hh) rebuildCells_own started (by kernel_rfl) Tryz.func3
  (ChangeSpec.witness_shaped (enc:=enc) (C:=Tryz.checked) (os:=os) (X:=fun w _=>laidMetH Tryz.prog Rows.rebuildCellsRow.laid w) false (World.laidAll Tryz.prog os Rows.rebuildCellsRow.laid) #[.agg (frA 0 Yua),.int .i64 0,.agg (Ygw celZ nilS 0).toArray] 8 (World.laidAll_os _ _ _)
   (World.shaped_of_ZipB (by kernel_rfl) (by kernel_rfl)) (by kernel_rfl) (by kernel_rfl) (by kernel_rfl)
   (by rw[MakeChecks.laidMetH_plain _ _ _ (by kernel_rfl)];exact laidMet_laidAll _ (by kernel_rfl) (by kernel_rfl))) ?_
 intro W base args ds gs before hval0 hW _ hsz0 hL _;have hval:∀(j:Nat) t v,Tryz.f3.params[j]? =some t→args[j]? =some v→Value.okWide Tryz.prog W .any base t v:=hval0;have hW':=hW;obtain⟨p,q,hA0,hV,rfl,hfz,hnd⟩:=hW;have hA:DataW.TrodAll enc Tryz.prog W 0 (fun _=>true) true Tryz.f3.params.toList args.toList ds p:=hA0;rw[Tryz.params3] at hA hval
 obtain⟨v0,vs0,d0,ds0,p0,q0,hargs,rfl,rfl,h0,r0⟩:=trodAll_cons hA;obtain⟨v1,vs1,d1,ds1,p1,q1,rfl,rfl,rfl,h1,r1⟩:=trodAll_cons r0;obtain⟨v2,vs2,d2,ds2,p2,q2,rfl,rfl,rfl,h2,r2⟩:=trodAll_cons r1;obtain⟨rfl,rfl,rfl⟩:=trodAll_nil r2;obtain rfl:args=#[v0,v1,v2]:=by cases args;simp_all
 obtain⟨rfl,rfl⟩:=trodVars_none hV;obtain⟨a0,v0',n0,f0,rfl,w0,x0,y0⟩:=Ym5 Tryz.underlying25 Tryz.underlying3 Tryz.underlying23 Tryz.underlying22 Tryz.underlying5 rfl rfl rfl rfl (by kernel_rfl) (by kernel_rfl) (by kernel_rfl) (by kernel_rfl) (by kernel_rfl) (hval 0 25 v0 rfl rfl) h0;obtain⟨a1,rfl,rfl,rfl,w1⟩:=open_int Tryz.underlying3 (hval 1 3 v1 rfl rfl) h1
 obtain⟨k2,p2',n2,c2,q2',rfl,w2,x2⟩:=Ym6 3 Ye3 Tryz.underlying33 Tryz.underlying3 ⟨rfl,rfl⟩ ⟨rfl,rfl⟩ (by kernel_rfl) (by kernel_rfl) (by kernel_rfl) (fun cs' d ps hs hd=>Ykz 3 Ye3 Tryz.underlying31 Tryz.underlying4 Tryz.underlying3 Tryz.underlying26 Tryz.underlying27 Tryz.underlying29 Tryz.underlying28 ⟨rfl,rfl,rfl,rfl,rfl,rfl,rfl⟩ ⟨rfl,rfl,rfl,rfl,rfl,rfl,rfl⟩ (by kernel_rfl) (by kernel_rfl) (by kernel_rfl) (by kernel_rfl) (by kernel_rfl) (by kernel_rfl) (by kernel_rfl) (by decide) (Yop Tryz.underlying82 Tryz.underlying4 Tryz.underlying3 rfl rfl rfl rfl rfl rfl (by kernel_rfl) (by kernel_rfl)) hs hd) (hval 2 33 v2 rfl rfl) h2
 clear hA0 hval0;refine(Yfe a0 v0' n0 f0 a1 k2 p2' n2 c2 q2' W w0 x0 y0 w1 w2 x2 (Yr9 hL ⟨by simp[Rows.rebuildCellsRow],by kernel_rfl⟩)).mono fun e W' ⟨he,hb⟩=>?_;subst he;exact⟨_,rfl,Yta rebuildCells_laid rebuildCells_reads rfl Tryz.underlying4 rfl hW' rfl hb⟩
theorem rebuildCells_j1:(Rows.rebuildCellsRow.inPlace==Tryz.prog.inPlace 3)=true:=by kernel_rfl
theorem rebuildCells_j2:(Rows.rebuildCellsRow.unfollowed==Tryz.prog.unfollowed 3)=true:=by kernel_rfl
theorem rebuildCells_j3:(Rows.rebuildCellsRow.recurses==Tryz.prog.recurses 3)=true:=by kernel_rfl
theorem rebuildCells_j4:(Rows.rebuildCellsRow.named==Tryz.prog.varsNamed 3)=true:=by kernel_rfl
theorem rebuildCells_joined:joinedFacts Tryz.prog 3 Tryz.f3 Rows.rebuildCellsSpec Rows.rebuildCellsRow=true:=by
 unfold joinedFacts;rw[rebuildCells_j1,rebuildCells_j2,rebuildCells_j3,rebuildCells_j4]
 kernel_rfl
theorem rebuildCells_over:Rows.rebuildCellsRow.holds Tryz.pinned (OpenSpec.ofChange Rows.rebuildCellsSpec):=
 OpenClaim.holds_of_wide 3 Tryz.f3 rfl rfl rfl rfl rfl rfl rfl ⟨rfl,rfl,rfl,rfl,rfl⟩ rfl rfl rfl rfl rfl (by kernel_rfl) Tryz.func3 rebuildCells_joined
  (of_decide_eq_true (by kernel_rfl)) (by unfold Func.isWrapper;first|(rw[if_pos (by decide +kernel)];kernel_rfl)|(rw[if_neg (by decide +kernel)];exact⟨rfl,rfl⟩))
  (fun os started H enc _=>rebuildCells_lifted os started H enc)
theorem rebuildCells_holds:Rows.RebuildCellsCardSaid:=
 Claim7.holds_tied_plain_at .later [] [.data,.data,.data,.data,.data,.data] true Rows.rebuildCellsCard.stood.harness false rebuildCells_over (fun _ h=>by cases h) (by kernel_rfl) (fun _ h=>by cases h) rebuildCells_row_tie rfl ⟨rfl,rfl⟩ (by kernel_rfl) rfl
  (fun f fn hf hfn=>by
   obtain rfl : f = 3 := Option.some.inj ((show Tryz.prog.funcNamed "overspill/overspilllaw31.RebuildCells" = some 3 by kernel_rfl).symm.trans hf) |>.symm
   obtain rfl:fn=Tryz.f3:=(Option.some.inj (Tryz.func3.symm.trans hfn)).symm;exact⟨by kernel_rfl,fun j t ht=>by
    rw[Tryz.params3] at ht;have hm:t∈[25,3,33]:=by simpa using Array.mem_of_getElem? ht
    have Yhf:([25,3,33].all fun u=>!Tryz.prog.wantsStandIn u)=true:=by kernel_rfl
    exact(show Tryz.prog.wantsStandIn t=false by simpa using List.all_eq_true.1 Yhf t hm)⟩)
  (by kernel_rfl)
#print axioms rebuildCells_holds
end Go.Proofs.YtdnjefldijjgdaaGreatDoor
