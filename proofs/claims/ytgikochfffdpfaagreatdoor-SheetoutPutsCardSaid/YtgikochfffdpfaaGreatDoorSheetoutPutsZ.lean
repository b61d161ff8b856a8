/- Any sheet is written as the document's own answer says, behind what is there, or refused, and then nothing is written; so many bits has it; and the chapter's example comes out. Conditions: none but the law's own (sheets of up to 200 cells, 1,000 noughts; 100 digits ahead), and the card's: what the listed variables hold when the call begins. -/
import Derived.Test.YtgikochfffdpfaaGreatDoorSheetoutPutsMe
import Derived.Test.YtgikochfffdpfaaGreatDoorSheetoutPutsMbb
import Derived.Test.YtgikochfffdpfaaGreatDoorSheetoutPutsMbu
import Derived.Test.YtgikochfffdpfaaGreatDoorCards
import Derived.Test.YtgikochfffdpfaaGreatDoorTie
import Derived.Lay
namespace Go.Proofs.YtgikochfffdpfaaGreatDoor
open Go.RowKit Go.Lib Go.ChangeShapes Go.WideShapes Go.ChangeAt
theorem sheetoutPuts_own:ownKnob Tryz.prog.godebug=none:=by kernel_rfl
theorem sheetoutPuts_laid:laidOutB Tryz.prog=true:=by kernel_rfl
theorem sheetoutPuts_reads:Tryz.f3.params.toList.all (fun t=> Tryz.prog.readableRec t&&decide (t<Tryz.prog.types.size))=true:=by kernel_rfl
set_option maxRecDepth 100000 in
theorem sheetoutPuts_lifted (os:Os) (started:os.Started) (H:Type) (enc:TypeId×Value→H):
  ReturnsInHanded {} Tryz.checked os 3 .any (fun w args=> (Rows.sheetoutPutsSpec.pre enc Tryz.prog Tryz.f3 Rows.sheetoutPutsRow.domain false w args∧laidMetH Tryz.prog Rows.sheetoutPutsRow.laid w)∧sizedMet enc Tryz.prog Tryz.f3 (OpenSpec.ofChange Rows.sheetoutPutsSpec) false w args)
   (Rows.sheetoutPutsSpec.post enc Tryz.prog Tryz.f3 false true false false):=by
 refine returnsInHanded_of_change_and (C:=Tryz.checked) (X:=fun w _=> laidMetH Tryz.prog Rows.sheetoutPutsRow.laid w) (fun _ _ _ hh h=> h.of_heap hh) sheetoutPuts_own started (by kernel_rfl) Tryz.func3
  (ChangeSpec.witness_shaped (enc:=enc) (C:=Tryz.checked) (os:=os) (X:=fun w _=> laidMetH Tryz.prog Rows.sheetoutPutsRow.laid w) false (World.laidAll Tryz.prog os Rows.sheetoutPutsRow.laid) #[.agg (Ya3 shdZ (.slice none 0 0) (.slice none 0 0) 0).toArray,.string ⟨#[]⟩] 8 (World.laidAll_os _ _ _)
   (World.shaped_of_ZipB (by kernel_rfl) (by kernel_rfl)) (by kernel_rfl) (by kernel_rfl) (by kernel_rfl)
   (by rw [MakeChecks.laidMetH_plain _ _ _ (by kernel_rfl)];exact laidMet_laidAll _ (by kernel_rfl) (by kernel_rfl))) ?_
 intro W base args ds gs before hval0 hW _ hsz0 hL _
 have hval:∀(j:Nat) t v,Tryz.f3.params[j]? = some t→args[j]? = some v→Value.okWide Tryz.prog W .any base t v:=hval0
 have hW':=hW
 obtain ⟨p,q,hA0,hV,rfl,hfz,hnd⟩:=hW
 have hA:DataW.TrodAll enc Tryz.prog W 0 (fun _=> true) true Tryz.f3.params.toList args.toList ds p:=hA0
 rw [Tryz.params3] at hA hval
 obtain ⟨v0,vs0,d0,ds0,p0,q0,hargs,rfl,rfl,h0,r0⟩:=trodAll_cons hA
 obtain ⟨v1,vs1,d1,ds1,p1,q1,rfl,rfl,rfl,h1,r1⟩:=trodAll_cons r0
 obtain ⟨rfl,rfl,rfl⟩:=trodAll_nil r1
 obtain rfl:args = #[v0,v1]:=by cases args;simp_all
 obtain ⟨rfl,rfl⟩:=trodVars_none hV
 obtain ⟨S0,vs0',rfl,x0⟩:=Yrz Tryz.underlying25 Tryz.underlying3 Tryz.underlying4 Tryz.underlying22 Tryz.underlying23 ⟨rfl,rfl,rfl,rfl,rfl,rfl,rfl,rfl⟩ ⟨rfl,rfl,rfl,rfl,rfl,rfl,rfl,rfl⟩ (by kernel_rfl) (by kernel_rfl) (by kernel_rfl) (by kernel_rfl) (by kernel_rfl) (by kernel_rfl) (Yyh Tryz.underlying59 Tryz.underlying4 Tryz.underlying3 Tryz.underlying57 ⟨rfl,rfl,rfl,rfl⟩ ⟨rfl,rfl,rfl,rfl⟩ (by kernel_rfl) (by kernel_rfl) (by kernel_rfl) (by kernel_rfl) (Yxw Tryz.underlying56 Tryz.underlying4 Tryz.underlying3 Tryz.underlying51 Tryz.underlying52 Tryz.underlying54 Tryz.underlying53 ⟨rfl,rfl,rfl,rfl,rfl,rfl,rfl⟩ ⟨rfl,rfl,rfl,rfl,rfl,rfl,rfl⟩ (by kernel_rfl) (by kernel_rfl) (by kernel_rfl) (by kernel_rfl) (by kernel_rfl) (by kernel_rfl) (by kernel_rfl) (Ytw Tryz.underlying130 Tryz.underlying4 Tryz.underlying3 rfl rfl rfl rfl rfl rfl (by kernel_rfl) (by kernel_rfl)))) (hval 0 25 v0 rfl rfl) h0
 obtain ⟨a1,rfl,rfl,rfl,w1⟩:=Go.ChangeMaps.open_string Tryz.underlying9 (hval 1 9 v1 rfl rfl) h1
 have z1:a1.size≤140737488355328:=Nat.le_trans (sized_string hsz0 (j:=1) rfl rfl) (Nat.le_of_lt reachBytes_lt)
 clear hA0 hval0
 refine (Yhx S0 vs0' a1 W x0 w1 z1 (Yv9 hL ⟨by simp [Rows.sheetoutPutsRow],by kernel_rfl⟩)).mono fun e W' ⟨he,hb⟩=> ?_
 subst he
 exact ⟨_,rfl,Yx7 sheetoutPuts_laid sheetoutPuts_reads rfl Tryz.underlying4 rfl hW' rfl hb⟩
theorem sheetoutPuts_j1:(Rows.sheetoutPutsRow.inPlace==Tryz.prog.inPlace 3)=true:=by kernel_rfl
theorem sheetoutPuts_j2:(Rows.sheetoutPutsRow.unfollowed==Tryz.prog.unfollowed 3)=true:=by kernel_rfl
theorem sheetoutPuts_j3:(Rows.sheetoutPutsRow.recurses==Tryz.prog.recurses 3)=true:=by kernel_rfl
theorem sheetoutPuts_j4:(Rows.sheetoutPutsRow.named==Tryz.prog.varsNamed 3)=true:=by kernel_rfl
theorem sheetoutPuts_joined:joinedFacts Tryz.prog 3 Tryz.f3 Rows.sheetoutPutsSpec Rows.sheetoutPutsRow=true:=by
 unfold joinedFacts
 rw [sheetoutPuts_j1,sheetoutPuts_j2,sheetoutPuts_j3,sheetoutPuts_j4]
 kernel_rfl
theorem sheetoutPuts_over:Rows.sheetoutPutsRow.holds Tryz.pinned (OpenSpec.ofChange Rows.sheetoutPutsSpec):=
 OpenClaim.holds_of_wide 3 Tryz.f3 rfl rfl rfl rfl rfl rfl rfl ⟨rfl,rfl,rfl,rfl,rfl⟩ rfl rfl rfl rfl rfl (by kernel_rfl) Tryz.func3 sheetoutPuts_joined
  (of_decide_eq_true (by kernel_rfl)) (by unfold Func.isWrapper;first | (rw [if_pos (by decide +kernel)];kernel_rfl) | (rw [if_neg (by decide +kernel)];exact ⟨rfl,rfl⟩))
  (fun os started H enc _=> sheetoutPuts_lifted os started H enc)
theorem sheetoutPuts_holds:Rows.SheetoutPutsCardSaid:=
 Claim7.holds_tied_plain_at .later [] [.data,.data,.data,.data,.data,.data,.data] true Rows.sheetoutPutsCard.stood.harness false sheetoutPuts_over (fun _ h=> by cases h) (by kernel_rfl) (fun _ h=> by cases h) sheetoutPuts_row_tie rfl ⟨rfl,rfl⟩ (by kernel_rfl) rfl
  (fun f fn hf hfn=> by
   obtain rfl : f = 3 := Option.some.inj ((show Tryz.prog.funcNamed "overspill/overspilllaw27.SheetoutPuts" = some 3 by kernel_rfl).symm.trans hf) |>.symm
   obtain rfl:fn=Tryz.f3:=(Option.some.inj (Tryz.func3.symm.trans hfn)).symm
   exact ⟨by kernel_rfl,fun j t ht=> by
    rw [Tryz.params3] at ht
    have hm:t∈[25,9]:=by simpa using Array.mem_of_getElem? ht
    have hall:([25,9].all fun u=> !Tryz.prog.wantsStandIn u)=true:=by kernel_rfl
    exact (show Tryz.prog.wantsStandIn t=false by simpa using List.all_eq_true.1 hall t hm)⟩)
  (by kernel_rfl)
#print axioms sheetoutPuts_holds
end Go.Proofs.YtgikochfffdpfaaGreatDoor
