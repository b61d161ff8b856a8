/- Of any sheet that may be: the quantisers of all cells are from 1 to 31, and go on by 2 at most; and the chapter's example comes out. Conditions: none but the law's own (up to 200 cells, 30 rows, 100 events a block), and the card's: what the listed variables hold when the call begins. -/
import Derived.Test.YtndbeacoaimdgaaDoorQuantsGoMf
import Derived.Test.YtndbeacoaimdgaaDoorQuantsGoMz
import Derived.Test.YtndbeacoaimdgaaDoorQuantsGoMbp
import Derived.Test.YtndbeacoaimdgaaDoorCards
import Derived.Test.YtndbeacoaimdgaaDoorTie
import Derived.Lay
namespace Go.Proofs.YtndbeacoaimdgaaDoor
open Go.RowKit Go.Lib Go.ChangeShapes Go.WideShapes Go.ChangeAt
theorem quantsGo_own:ownKnob Tryd.prog.godebug=none:=by kernel_rfl
theorem quantsGo_laid:laidOutB Tryd.prog=true:=by kernel_rfl
theorem quantsGo_reads:Tryd.f4.params.toList.all (fun t=>Tryd.prog.readableRec t&&decide (t<Tryd.prog.types.size))=true:=by kernel_rfl
set_option maxRecDepth 100000 in
theorem quantsGo_lifted (os:Os)(started:os.Started)(H:Type)(enc:TypeId×Value→H):
  ReturnsInHanded {} Tryd.checked os 4 .any (fun w args=>(Rows.quantsGoSpec.pre enc Tryd.prog Tryd.f4 Rows.quantsGoRow.domain false w args∧laidMetH Tryd.prog Rows.quantsGoRow.laid w)∧sizedMet enc Tryd.prog Tryd.f4 (OpenSpec.ofChange Rows.quantsGoSpec) false w args)
   (Rows.quantsGoSpec.post enc Tryd.prog Tryd.f4 false true false false):=by
 refine returnsInHanded_of_change_and (C:=Tryd.checked) (X:=fun w _=>laidMetH Tryd.prog Rows.quantsGoRow.laid w) (fun _ _ _ hh h=>h.of_heap hh) quantsGo_own started (by kernel_rfl) Tryd.func4
  (ChangeSpec.witness_shaped (enc:=enc) (C:=Tryd.checked) (os:=os) (X:=fun w _=>laidMetH Tryd.prog Rows.quantsGoRow.laid w) false (World.laidAll Tryd.prog os Rows.quantsGoRow.laid) #[.agg (Yas shdZ (.slice none 0 0) (.slice none 0 0) 0).toArray] 8 (World.laidAll_os _ _ _)
   (World.shaped_of_ZipB (by kernel_rfl) (by kernel_rfl)) (by kernel_rfl) (by kernel_rfl) (by kernel_rfl)
   (by rw[MakeChecks.laidMetH_plain _ _ _ (by kernel_rfl)];exact laidMet_laidAll _ (by kernel_rfl) (by kernel_rfl))) ?_
 intro W base args ds gs before hval0 hW _ hsz0 hL _;have hval:∀(j:Nat) t v,Tryd.f4.params[j]? =some t→args[j]? =some v→Value.okWide Tryd.prog W .any base t v:=hval0;have hW':=hW;obtain⟨p,q,hA0,hV,rfl,hfz,hnd⟩:=hW;have hA:DataW.TrodAll enc Tryd.prog W 0 (fun _=>true) true Tryd.f4.params.toList args.toList ds p:=hA0;rw[Tryd.params4] at hA hval
 obtain⟨v0,vs0,d0,ds0,p0,q0,hargs,rfl,rfl,h0,r0⟩:=trodAll_cons hA;obtain⟨rfl,rfl,rfl⟩:=trodAll_nil r0;obtain rfl:args=#[v0]:=by cases args;simp_all
 obtain⟨rfl,rfl⟩:=trodVars_none hV
 obtain⟨S0,vs0',rfl,x0⟩:=Yjw Tryd.underlying25 Tryd.underlying3 Tryd.underlying4 Tryd.underlying22 Tryd.underlying23 ⟨rfl,rfl,rfl,rfl,rfl,rfl,rfl,rfl⟩ ⟨rfl,rfl,rfl,rfl,rfl,rfl,rfl,rfl⟩ (by kernel_rfl) (by kernel_rfl) (by kernel_rfl) (by kernel_rfl) (by kernel_rfl) (by kernel_rfl) (Yo3 Tryd.underlying36 Tryd.underlying4 Tryd.underlying3 Tryd.underlying34 ⟨rfl,rfl,rfl,rfl⟩ ⟨rfl,rfl,rfl,rfl⟩ (by kernel_rfl) (by kernel_rfl) (by kernel_rfl) (by kernel_rfl) (Yoh Tryd.underlying42 Tryd.underlying4 Tryd.underlying3 Tryd.underlying38 Tryd.underlying39 Tryd.underlying40 Tryd.underlying37 ⟨rfl,rfl,rfl,rfl,rfl,rfl,rfl⟩ ⟨rfl,rfl,rfl,rfl,rfl,rfl,rfl⟩ (by kernel_rfl) (by kernel_rfl) (by kernel_rfl) (by kernel_rfl) (by kernel_rfl) (by kernel_rfl) (by kernel_rfl) (Yla Tryd.underlying89 Tryd.underlying4 Tryd.underlying3 rfl rfl rfl rfl rfl rfl (by kernel_rfl) (by kernel_rfl)))) (hval 0 25 v0 rfl rfl) h0
 clear hA0 hval0;refine(Ygh S0 vs0' W x0 (Yny hL ⟨by simp[Rows.quantsGoRow],by kernel_rfl⟩)).mono fun e W' ⟨he,hb⟩=>?_;subst he;exact⟨_,rfl,Yor quantsGo_laid quantsGo_reads rfl Tryd.underlying4 rfl hW' rfl hb⟩
theorem quantsGo_j1:(Rows.quantsGoRow.inPlace==Tryd.prog.inPlace 4)=true:=by kernel_rfl
theorem quantsGo_j2:(Rows.quantsGoRow.unfollowed==Tryd.prog.unfollowed 4)=true:=by kernel_rfl
theorem quantsGo_j3:(Rows.quantsGoRow.recurses==Tryd.prog.recurses 4)=true:=by kernel_rfl
theorem quantsGo_j4:(Rows.quantsGoRow.named==Tryd.prog.varsNamed 4)=true:=by kernel_rfl
theorem quantsGo_joined:joinedFacts Tryd.prog 4 Tryd.f4 Rows.quantsGoSpec Rows.quantsGoRow=true:=by
 unfold joinedFacts;rw[quantsGo_j1,quantsGo_j2,quantsGo_j3,quantsGo_j4]
 kernel_rfl
theorem quantsGo_over:Rows.quantsGoRow.holds Tryd.pinned (OpenSpec.ofChange Rows.quantsGoSpec):=
 OpenClaim.holds_of_wide 4 Tryd.f4 rfl rfl rfl rfl rfl rfl rfl ⟨rfl,rfl,rfl,rfl,rfl⟩ rfl rfl rfl rfl rfl (by kernel_rfl) Tryd.func4 quantsGo_joined
  (of_decide_eq_true (by kernel_rfl)) (by unfold Func.isWrapper;first|(rw[if_pos (by decide +kernel)];kernel_rfl)|(rw[if_neg (by decide +kernel)];exact⟨rfl,rfl⟩))
  (fun os started H enc _=>quantsGo_lifted os started H enc)
theorem quantsGo_holds:Rows.QuantsGoCardSaid:=
 Claim7.holds_tied_plain_at .later [] [.data,.data,.data,.data] true Rows.quantsGoCard.stood.harness false quantsGo_over (fun _ h=>by cases h) (by kernel_rfl) (fun _ h=>by cases h) quantsGo_row_tie rfl ⟨rfl,rfl⟩ (by kernel_rfl) rfl
  (fun f fn hf hfn=>by
   obtain rfl : f = 4 := Option.some.inj ((show Tryd.prog.funcNamed "overspill/overspilllaw30.QuantsGo" = some 4 by kernel_rfl).symm.trans hf) |>.symm
   obtain rfl:fn=Tryd.f4:=(Option.some.inj (Tryd.func4.symm.trans hfn)).symm;exact⟨by kernel_rfl,fun j t ht=>by
    rw[Tryd.params4] at ht;have hm:t∈[25]:=by simpa using Array.mem_of_getElem? ht
    have hall:([25].all fun u=>!Tryd.prog.wantsStandIn u)=true:=by kernel_rfl
    exact(show Tryd.prog.wantsStandIn t=false by simpa using List.all_eq_true.1 hall t hm)⟩)
  (by kernel_rfl)
#print axioms quantsGo_holds
end Go.Proofs.YtndbeacoaimdgaaDoor
