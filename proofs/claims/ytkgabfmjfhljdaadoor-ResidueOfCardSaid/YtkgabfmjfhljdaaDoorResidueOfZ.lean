/- What is added to any cell's prediction, by any quantiser, is what the document's own answer says; of a skipped cell and of one that has a vector alone it is noughts; and the chapter's example comes out. Conditions: none but the law's own (up to 100 events a block), and the card's: what the listed variables hold when the call begins. -/
import Derived.Test.YtkgabfmjfhljdaaDoorResidueOfMe
import Derived.Test.YtkgabfmjfhljdaaDoorResidueOfMbm
import Derived.Test.YtkgabfmjfhljdaaDoorCards
import Derived.Test.YtkgabfmjfhljdaaDoorTie
import Derived.Lay
import Derived.RegionTactic
import Derived.ProofKit
import Derived.LaidMore
import Derived.OpenShut
import Derived.SizedLaws
import Derived.SevenTiedAt
import Derived.Stop.Joined
namespace Go.Proofs.YtkgabfmjfhljdaaDoor
open Go.RowKit Go.Lib Go.ChangeShapes Go.WideShapes Go.ChangeAt
theorem residueOf_own:ownKnob Tryd.prog.godebug=none:=by kernel_rfl
theorem residueOf_laid:laidOutB Tryd.prog=true:=by kernel_rfl
theorem residueOf_reads:Tryd.f4.params.toList.all (fun t=>Tryd.prog.readableRec t&&decide (t<Tryd.prog.types.size))=true:=by kernel_rfl
set_option maxRecDepth 100000 in
theorem residueOf_lifted (os:Os)(started:os.Started)(H:Type)(enc:TypeId×Value→H):
  ReturnsInHanded {} Tryd.checked os 4 .any (fun w args=>(Rows.residueOfSpec.pre enc Tryd.prog Tryd.f4 Rows.residueOfRow.domain false w args∧laidMetH Tryd.prog Rows.residueOfRow.laid w)∧sizedMet enc Tryd.prog Tryd.f4 (OpenSpec.ofChange Rows.residueOfSpec) false w args)
   (Rows.residueOfSpec.post enc Tryd.prog Tryd.f4 false true false false):=by
 refine returnsInHanded_of_change_and (C:=Tryd.checked) (X:=fun w _=>laidMetH Tryd.prog Rows.residueOfRow.laid w) (fun _ _ _ hh h=>h.of_heap hh) residueOf_own started (by kernel_rfl) Tryd.func4
  (ChangeSpec.witness_shaped (enc:=enc) (C:=Tryd.checked) (os:=os) (X:=fun w _=>laidMetH Tryd.prog Rows.residueOfRow.laid w) false (World.laidAll Tryd.prog os Rows.residueOfRow.laid) #[.agg (Ycn Yj5 Yqg).toArray,.int .i64 0] 8 (World.laidAll_os _ _ _)
   (World.shaped_of_ZipB (by kernel_rfl) (by kernel_rfl)) (by kernel_rfl) (by kernel_rfl) (by kernel_rfl)
   (by rw[MakeChecks.laidMetH_plain _ _ _ (by kernel_rfl)];exact laidMet_laidAll _ (by kernel_rfl) (by kernel_rfl))) ?_
 intro W base args ds gs before hval0 hW _ hsz0 hL _;have hval:∀(j:Nat) t v,Tryd.f4.params[j]? =some t→args[j]? =some v→Value.okWide Tryd.prog W .any base t v:=hval0;have hW':=hW;obtain⟨p,q,hA0,hV,rfl,hfz,hnd⟩:=hW;have hA:DataW.TrodAll enc Tryd.prog W 0 (fun _=>true) true Tryd.f4.params.toList args.toList ds p:=hA0;rw[Tryd.params4] at hA hval
 obtain⟨v0,vs0,d0,ds0,p0,q0,hargs,rfl,rfl,h0,r0⟩:=trodAll_cons hA;obtain⟨v1,vs1,d1,ds1,p1,q1,rfl,rfl,rfl,h1,r1⟩:=trodAll_cons r0;obtain⟨rfl,rfl,rfl⟩:=trodAll_nil r1;obtain rfl:args=#[v0,v1]:=by cases args;simp_all
 obtain⟨rfl,rfl⟩:=trodVars_none hV
 obtain⟨k0,p0',n0,c0,rfl,w0⟩:=Yoi 3 Yew Tryd.underlying27 Tryd.underlying4 Tryd.underlying3 Tryd.underlying22 Tryd.underlying23 Tryd.underlying25 Tryd.underlying24 ⟨rfl,rfl,rfl,rfl,rfl,rfl,rfl⟩ ⟨rfl,rfl,rfl,rfl,rfl,rfl,rfl⟩ (by kernel_rfl) (by kernel_rfl) (by kernel_rfl) (by kernel_rfl) (by kernel_rfl) (by kernel_rfl) (by kernel_rfl) (by kernel_rfl) (by decide) (Yly Tryd.underlying42 Tryd.underlying4 Tryd.underlying3 rfl rfl rfl rfl rfl rfl (by kernel_rfl) (by kernel_rfl)) (hval 0 27 v0 rfl rfl) h0
 obtain⟨a1,rfl,rfl,rfl,w1⟩:=open_int Tryd.underlying3 (hval 1 3 v1 rfl rfl) h1;clear hA0 hval0;refine(Yfp k0 p0' n0 c0 a1 W w0 w1 (Yov hL ⟨by simp[Rows.residueOfRow],by kernel_rfl⟩)).mono fun e W' ⟨he,hb⟩=>?_;subst he;exact⟨_,rfl,Ypz residueOf_laid residueOf_reads rfl Tryd.underlying4 rfl hW' rfl hb⟩
theorem residueOf_j1:(Rows.residueOfRow.inPlace==Tryd.prog.inPlace 4)=true:=by kernel_rfl
theorem residueOf_j2:(Rows.residueOfRow.unfollowed==Tryd.prog.unfollowed 4)=true:=by kernel_rfl
theorem residueOf_j3:(Rows.residueOfRow.recurses==Tryd.prog.recurses 4)=true:=by kernel_rfl
theorem residueOf_j4:(Rows.residueOfRow.named==Tryd.prog.varsNamed 4)=true:=by kernel_rfl
theorem residueOf_joined:joinedFacts Tryd.prog 4 Tryd.f4 Rows.residueOfSpec Rows.residueOfRow=true:=by
 unfold joinedFacts;rw[residueOf_j1,residueOf_j2,residueOf_j3,residueOf_j4]
 kernel_rfl
theorem residueOf_over:Rows.residueOfRow.holds Tryd.pinned (OpenSpec.ofChange Rows.residueOfSpec):=
 OpenClaim.holds_of_wide 4 Tryd.f4 rfl rfl rfl rfl rfl rfl rfl ⟨rfl,rfl,rfl,rfl,rfl⟩ rfl rfl rfl rfl rfl (by kernel_rfl) Tryd.func4 residueOf_joined
  (of_decide_eq_true (by kernel_rfl)) (by unfold Func.isWrapper;first|(rw[if_pos (by decide +kernel)];kernel_rfl)|(rw[if_neg (by decide +kernel)];exact⟨rfl,rfl⟩))
  (fun os started H enc _=>residueOf_lifted os started H enc)
theorem residueOf_holds:Rows.ResidueOfCardSaid:=
 Claim7.holds_tied_plain_at .later [] [.data,.data,.data,.data,.data,.data] true Rows.residueOfCard.stood.harness false residueOf_over (fun _ h=>by cases h) (by kernel_rfl) (fun _ h=>by cases h) residueOf_row_tie rfl ⟨rfl,rfl⟩ (by kernel_rfl) rfl
  (fun f fn hf hfn=>by
   obtain rfl : f = 4 := Option.some.inj ((show Tryd.prog.funcNamed "overspill/overspilllaw29.ResidueOf" = some 4 by kernel_rfl).symm.trans hf) |>.symm
   obtain rfl:fn=Tryd.f4:=(Option.some.inj (Tryd.func4.symm.trans hfn)).symm;exact⟨by kernel_rfl,fun j t ht=>by
    rw[Tryd.params4] at ht;have hm:t∈[27,3]:=by simpa using Array.mem_of_getElem? ht
    have Yf1:([27,3].all fun u=>!Tryd.prog.wantsStandIn u)=true:=by kernel_rfl
    exact(show Tryd.prog.wantsStandIn t=false by simpa using List.all_eq_true.1 Yf1 t hm)⟩)
  (by kernel_rfl)
#print axioms residueOf_holds
end Go.Proofs.YtkgabfmjfhljdaaDoor
