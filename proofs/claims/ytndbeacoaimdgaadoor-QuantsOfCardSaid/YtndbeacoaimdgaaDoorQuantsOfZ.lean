/- The quantiser of each cell of any sheet, and with which each row begins, is what the document's own answer says, or what is wrong; and the chapter's example comes out. Conditions: none but the law's own (up to 200 cells, 30 rows, 100 events a block), and the card's: what the listed variables hold when the call begins. -/
import Derived.Test.YtndbeacoaimdgaaDoorQuantsOfMf
import Derived.Test.YtndbeacoaimdgaaDoorQuantsOfMba
import Derived.Test.YtndbeacoaimdgaaDoorQuantsOfMbs
import Derived.Test.YtndbeacoaimdgaaDoorCards
import Derived.Test.YtndbeacoaimdgaaDoorTie
import Derived.Lay
namespace Go.Proofs.YtndbeacoaimdgaaDoor
open Go.RowKit Go.Lib Go.ChangeShapes Go.WideShapes Go.ChangeAt
theorem quantsOf_own:ownKnob Tryd.prog.godebug=none:=by kernel_rfl
theorem quantsOf_laid:laidOutB Tryd.prog=true:=by kernel_rfl
theorem quantsOf_reads:Tryd.f3.params.toList.all (fun t=>Tryd.prog.readableRec t&&decide (t<Tryd.prog.types.size))=true:=by kernel_rfl
set_option maxRecDepth 100000 in
theorem quantsOf_lifted (os:Os)(started:os.Started)(H:Type)(enc:TypeId×Value→H):
  ReturnsInHanded {} Tryd.checked os 3 .any (fun w args=>(Rows.quantsOfSpec.pre enc Tryd.prog Tryd.f3 Rows.quantsOfRow.domain false w args∧laidMetH Tryd.prog Rows.quantsOfRow.laid w)∧sizedMet enc Tryd.prog Tryd.f3 (OpenSpec.ofChange Rows.quantsOfSpec) false w args)
   (Rows.quantsOfSpec.post enc Tryd.prog Tryd.f3 false true false false):=by
 refine returnsInHanded_of_change_and (C:=Tryd.checked) (X:=fun w _=>laidMetH Tryd.prog Rows.quantsOfRow.laid w) (fun _ _ _ hh h=>h.of_heap hh) quantsOf_own started (by kernel_rfl) Tryd.func3
  (ChangeSpec.witness_shaped (enc:=enc) (C:=Tryd.checked) (os:=os) (X:=fun w _=>laidMetH Tryd.prog Rows.quantsOfRow.laid w) false (World.laidAll Tryd.prog os Rows.quantsOfRow.laid) #[.agg (Yau shdZ (.slice none 0 0) (.slice none 0 0) 0).toArray] 8 (World.laidAll_os _ _ _)
   (World.shaped_of_ZipB (by kernel_rfl) (by kernel_rfl)) (by kernel_rfl) (by kernel_rfl) (by kernel_rfl)
   (by rw[MakeChecks.laidMetH_plain _ _ _ (by kernel_rfl)];exact laidMet_laidAll _ (by kernel_rfl) (by kernel_rfl))) ?_
 intro W base args ds gs before hval0 hW _ hsz0 hL _;have hval:∀(j:Nat) t v,Tryd.f3.params[j]? =some t→args[j]? =some v→Value.okWide Tryd.prog W .any base t v:=hval0;have hW':=hW;obtain⟨p,q,hA0,hV,rfl,hfz,hnd⟩:=hW;have hA:DataW.TrodAll enc Tryd.prog W 0 (fun _=>true) true Tryd.f3.params.toList args.toList ds p:=hA0;rw[Tryd.params3] at hA hval
 obtain⟨v0,vs0,d0,ds0,p0,q0,hargs,rfl,rfl,h0,r0⟩:=trodAll_cons hA;obtain⟨rfl,rfl,rfl⟩:=trodAll_nil r0;obtain rfl:args=#[v0]:=by cases args;simp_all
 obtain⟨rfl,rfl⟩:=trodVars_none hV
 obtain⟨S0,vs0',rfl,x0⟩:=Ylu Tryd.underlying25 Tryd.underlying3 Tryd.underlying4 Tryd.underlying22 Tryd.underlying23 ⟨rfl,rfl,rfl,rfl,rfl,rfl,rfl,rfl⟩ ⟨rfl,rfl,rfl,rfl,rfl,rfl,rfl,rfl⟩ (by kernel_rfl) (by kernel_rfl) (by kernel_rfl) (by kernel_rfl) (by kernel_rfl) (by kernel_rfl) (Yqt Tryd.underlying36 Tryd.underlying4 Tryd.underlying3 Tryd.underlying34 ⟨rfl,rfl,rfl,rfl⟩ ⟨rfl,rfl,rfl,rfl⟩ (by kernel_rfl) (by kernel_rfl) (by kernel_rfl) (by kernel_rfl) (Yqa Tryd.underlying42 Tryd.underlying4 Tryd.underlying3 Tryd.underlying38 Tryd.underlying39 Tryd.underlying40 Tryd.underlying37 ⟨rfl,rfl,rfl,rfl,rfl,rfl,rfl⟩ ⟨rfl,rfl,rfl,rfl,rfl,rfl,rfl⟩ (by kernel_rfl) (by kernel_rfl) (by kernel_rfl) (by kernel_rfl) (by kernel_rfl) (by kernel_rfl) (by kernel_rfl) (Ym9 Tryd.underlying89 Tryd.underlying4 Tryd.underlying3 rfl rfl rfl rfl rfl rfl (by kernel_rfl) (by kernel_rfl)))) (hval 0 25 v0 rfl rfl) h0
 clear hA0 hval0;refine(Yh1 S0 vs0' W x0 (Ypo hL ⟨by simp[Rows.quantsOfRow],by kernel_rfl⟩)).mono fun e W' ⟨he,hb⟩=>?_;subst he;exact⟨_,rfl,Yqh quantsOf_laid quantsOf_reads rfl Tryd.underlying4 rfl hW' rfl hb⟩
theorem quantsOf_j1:(Rows.quantsOfRow.inPlace==Tryd.prog.inPlace 3)=true:=by kernel_rfl
theorem quantsOf_j2:(Rows.quantsOfRow.unfollowed==Tryd.prog.unfollowed 3)=true:=by kernel_rfl
theorem quantsOf_j3:(Rows.quantsOfRow.recurses==Tryd.prog.recurses 3)=true:=by kernel_rfl
theorem quantsOf_j4:(Rows.quantsOfRow.named==Tryd.prog.varsNamed 3)=true:=by kernel_rfl
theorem quantsOf_joined:joinedFacts Tryd.prog 3 Tryd.f3 Rows.quantsOfSpec Rows.quantsOfRow=true:=by
 unfold joinedFacts;rw[quantsOf_j1,quantsOf_j2,quantsOf_j3,quantsOf_j4]
 kernel_rfl
theorem quantsOf_over:Rows.quantsOfRow.holds Tryd.pinned (OpenSpec.ofChange Rows.quantsOfSpec):=
 OpenClaim.holds_of_wide 3 Tryd.f3 rfl rfl rfl rfl rfl rfl rfl ⟨rfl,rfl,rfl,rfl,rfl⟩ rfl rfl rfl rfl rfl (by kernel_rfl) Tryd.func3 quantsOf_joined
  (of_decide_eq_true (by kernel_rfl)) (by unfold Func.isWrapper;first|(rw[if_pos (by decide +kernel)];kernel_rfl)|(rw[if_neg (by decide +kernel)];exact⟨rfl,rfl⟩))
  (fun os started H enc _=>quantsOf_lifted os started H enc)
theorem quantsOf_holds:Rows.QuantsOfCardSaid:=
 Claim7.holds_tied_plain_at .later [] [.data,.data,.data,.data] true Rows.quantsOfCard.stood.harness false quantsOf_over (fun _ h=>by cases h) (by kernel_rfl) (fun _ h=>by cases h) quantsOf_row_tie rfl ⟨rfl,rfl⟩ (by kernel_rfl) rfl
  (fun f fn hf hfn=>by
   obtain rfl : f = 3 := Option.some.inj ((show Tryd.prog.funcNamed "overspill/overspilllaw30.QuantsOf" = some 3 by kernel_rfl).symm.trans hf) |>.symm
   obtain rfl:fn=Tryd.f3:=(Option.some.inj (Tryd.func3.symm.trans hfn)).symm;exact⟨by kernel_rfl,fun j t ht=>by
    rw[Tryd.params3] at ht;have hm:t∈[25]:=by simpa using Array.mem_of_getElem? ht
    have hall:([25].all fun u=>!Tryd.prog.wantsStandIn u)=true:=by kernel_rfl
    exact(show Tryd.prog.wantsStandIn t=false by simpa using List.all_eq_true.1 hall t hm)⟩)
  (by kernel_rfl)
#print axioms quantsOf_holds
end Go.Proofs.YtndbeacoaimdgaaDoor
