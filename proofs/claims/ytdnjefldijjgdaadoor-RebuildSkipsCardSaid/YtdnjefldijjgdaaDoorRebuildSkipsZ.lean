/- A cell that is skipped is what the frame has there; no sample of any cell is below 0, or above 255; and the chapter's example comes out. Conditions: none but the law's own (planes of up to 30,000 samples, up to 100 events a block), and the card's: what the listed variables hold when the call begins. -/
import Derived.Test.YtdnjefldijjgdaaDoorRebuildSkipsMe
import Derived.Test.YtdnjefldijjgdaaDoorRebuildSkipsMbc
import Derived.Test.YtdnjefldijjgdaaDoorRebuildSkipsMbp
import Derived.Test.YtdnjefldijjgdaaDoorRebuildSkipsMbq
import Derived.Test.YtdnjefldijjgdaaDoorCards
import Derived.Test.YtdnjefldijjgdaaDoorTie
import Derived.Lay
import Derived.RegionTactic
import Derived.ProofKit
import Derived.LaidMore
import Derived.OpenShut
import Derived.SizedLaws
import Derived.SevenTiedAt
import Derived.Stop.Joined
namespace Go.Proofs.YtdnjefldijjgdaaDoor
open Go.RowKit Go.Lib Go.ChangeShapes Go.WideShapes Go.ChangeAt
theorem rebuildSkips_own:ownKnob Tryd.prog.godebug=none:=by kernel_rfl
theorem rebuildSkips_laid:laidOutB Tryd.prog=true:=by kernel_rfl
theorem rebuildSkips_reads:Tryd.f4.params.toList.all (fun t=>Tryd.prog.readableRec t&&decide (t<Tryd.prog.types.size))=true:=by kernel_rfl
set_option maxRecDepth 100000 in
theorem rebuildSkips_lifted (os:Os)(started:os.Started)(H:Type)(enc:TypeId×Value→H):
  ReturnsInHanded {} Tryd.checked os 4 .any (fun w args=>(Rows.rebuildSkipsSpec.pre enc Tryd.prog Tryd.f4 Rows.rebuildSkipsRow.domain false w args∧laidMetH Tryd.prog Rows.rebuildSkipsRow.laid w)∧sizedMet enc Tryd.prog Tryd.f4 (OpenSpec.ofChange Rows.rebuildSkipsSpec) false w args)
   (Rows.rebuildSkipsSpec.post enc Tryd.prog Tryd.f4 false true false false):=by
 refine returnsInHanded_of_change_and (C:=Tryd.checked) (X:=fun w _=>laidMetH Tryd.prog Rows.rebuildSkipsRow.laid w) (fun _ _ _ hh h=>h.of_heap hh) rebuildSkips_own started (by kernel_rfl) Tryd.func4
  (ChangeSpec.witness_shaped (enc:=enc) (C:=Tryd.checked) (os:=os) (X:=fun w _=>laidMetH Tryd.prog Rows.rebuildSkipsRow.laid w) false (World.laidAll Tryd.prog os Rows.rebuildSkipsRow.laid) #[.agg (frA 0 Ysl),.int .i64 0,.agg (Yfo Ysg nilS 0).toArray] 8 (World.laidAll_os _ _ _)
   (World.shaped_of_ZipB (by kernel_rfl) (by kernel_rfl)) (by kernel_rfl) (by kernel_rfl) (by kernel_rfl)
   (by rw[MakeChecks.laidMetH_plain _ _ _ (by kernel_rfl)];exact laidMet_laidAll _ (by kernel_rfl) (by kernel_rfl))) ?_
 intro W base args ds gs before hval0 hW _ hsz0 hL _;have hval:∀(j:Nat) t v,Tryd.f4.params[j]? =some t→args[j]? =some v→Value.okWide Tryd.prog W .any base t v:=hval0;have hW':=hW;obtain⟨p,q,hA0,hV,rfl,hfz,hnd⟩:=hW;have hA:DataW.TrodAll enc Tryd.prog W 0 (fun _=>true) true Tryd.f4.params.toList args.toList ds p:=hA0;rw[Tryd.params4] at hA hval
 obtain⟨v0,vs0,d0,ds0,p0,q0,hargs,rfl,rfl,h0,r0⟩:=trodAll_cons hA;obtain⟨v1,vs1,d1,ds1,p1,q1,rfl,rfl,rfl,h1,r1⟩:=trodAll_cons r0;obtain⟨v2,vs2,d2,ds2,p2,q2,rfl,rfl,rfl,h2,r2⟩:=trodAll_cons r1;obtain⟨rfl,rfl,rfl⟩:=trodAll_nil r2;obtain rfl:args=#[v0,v1,v2]:=by cases args;simp_all
 obtain⟨rfl,rfl⟩:=trodVars_none hV;obtain⟨a0,v0',n0,f0,rfl,w0,x0,y0⟩:=Yk4 Tryd.underlying31 Tryd.underlying3 Tryd.underlying29 Tryd.underlying28 Tryd.underlying5 rfl rfl rfl rfl (by kernel_rfl) (by kernel_rfl) (by kernel_rfl) (by kernel_rfl) (by kernel_rfl) (hval 0 31 v0 rfl rfl) h0;obtain⟨a1,rfl,rfl,rfl,w1⟩:=open_int Tryd.underlying3 (hval 1 3 v1 rfl rfl) h1
 obtain⟨k2,p2',n2,c2,q2',rfl,w2,x2⟩:=Yk5 3 Yd6 Tryd.underlying39 Tryd.underlying3 ⟨rfl,rfl⟩ ⟨rfl,rfl⟩ (by kernel_rfl) (by kernel_rfl) (by kernel_rfl) (fun cs' d ps hs hd=>Yje 3 Yd6 Tryd.underlying37 Tryd.underlying4 Tryd.underlying3 Tryd.underlying32 Tryd.underlying33 Tryd.underlying35 Tryd.underlying34 ⟨rfl,rfl,rfl,rfl,rfl,rfl,rfl⟩ ⟨rfl,rfl,rfl,rfl,rfl,rfl,rfl⟩ (by kernel_rfl) (by kernel_rfl) (by kernel_rfl) (by kernel_rfl) (by kernel_rfl) (by kernel_rfl) (by kernel_rfl) (by decide) (Ymp Tryd.underlying103 Tryd.underlying4 Tryd.underlying3 rfl rfl rfl rfl rfl rfl (by kernel_rfl) (by kernel_rfl)) hs hd) (hval 2 39 v2 rfl rfl) h2
 clear hA0 hval0;refine(Yeh a0 v0' n0 f0 a1 k2 p2' n2 c2 q2' W w0 x0 y0 w1 w2 x2 (Yp6 hL ⟨by simp[Rows.rebuildSkipsRow],by kernel_rfl⟩)).mono fun e W' ⟨he,hb⟩=>?_;subst he;exact⟨_,rfl,Yre rebuildSkips_laid rebuildSkips_reads rfl Tryd.underlying4 rfl hW' rfl hb⟩
theorem rebuildSkips_j1:(Rows.rebuildSkipsRow.inPlace==Tryd.prog.inPlace 4)=true:=by kernel_rfl
theorem rebuildSkips_j2:(Rows.rebuildSkipsRow.unfollowed==Tryd.prog.unfollowed 4)=true:=by kernel_rfl
theorem rebuildSkips_j3:(Rows.rebuildSkipsRow.recurses==Tryd.prog.recurses 4)=true:=by kernel_rfl
theorem rebuildSkips_j4:(Rows.rebuildSkipsRow.named==Tryd.prog.varsNamed 4)=true:=by kernel_rfl
theorem rebuildSkips_joined:joinedFacts Tryd.prog 4 Tryd.f4 Rows.rebuildSkipsSpec Rows.rebuildSkipsRow=true:=by
 unfold joinedFacts;rw[rebuildSkips_j1,rebuildSkips_j2,rebuildSkips_j3,rebuildSkips_j4]
 kernel_rfl
theorem rebuildSkips_over:Rows.rebuildSkipsRow.holds Tryd.pinned (OpenSpec.ofChange Rows.rebuildSkipsSpec):=
 OpenClaim.holds_of_wide 4 Tryd.f4 rfl rfl rfl rfl rfl rfl rfl ⟨rfl,rfl,rfl,rfl,rfl⟩ rfl rfl rfl rfl rfl (by kernel_rfl) Tryd.func4 rebuildSkips_joined
  (of_decide_eq_true (by kernel_rfl)) (by unfold Func.isWrapper;first|(rw[if_pos (by decide +kernel)];kernel_rfl)|(rw[if_neg (by decide +kernel)];exact⟨rfl,rfl⟩))
  (fun os started H enc _=>rebuildSkips_lifted os started H enc)
theorem rebuildSkips_holds:Rows.RebuildSkipsCardSaid:=
 Claim7.holds_tied_plain_at .later [] [.data,.data,.data,.data,.data,.data] true Rows.rebuildSkipsCard.stood.harness false rebuildSkips_over (fun _ h=>by cases h) (by kernel_rfl) (fun _ h=>by cases h) rebuildSkips_row_tie rfl ⟨rfl,rfl⟩ (by kernel_rfl) rfl
  (fun f fn hf hfn=>by
   obtain rfl : f = 4 := Option.some.inj ((show Tryd.prog.funcNamed "overspill/overspilllaw31.RebuildSkips" = some 4 by kernel_rfl).symm.trans hf) |>.symm
   obtain rfl:fn=Tryd.f4:=(Option.some.inj (Tryd.func4.symm.trans hfn)).symm;exact⟨by kernel_rfl,fun j t ht=>by
    rw[Tryd.params4] at ht;have hm:t∈[31,3,39]:=by simpa using Array.mem_of_getElem? ht
    have Ysi:([31,3,39].all fun u=>!Tryd.prog.wantsStandIn u)=true:=by kernel_rfl
    exact(show Tryd.prog.wantsStandIn t=false by simpa using List.all_eq_true.1 Ysi t hm)⟩)
  (by kernel_rfl)
#print axioms rebuildSkips_holds
end Go.Proofs.YtdnjefldijjgdaaDoor
