/- A sheet that was written behind any bits, with another one behind it, is read again, and so is that; and the chapter's example comes out. Conditions: none but the law's own (sheets of up to 200 cells, 1,000 noughts; 100 digits ahead), and the card's: what the listed variables hold when the call begins. -/
import Derived.Test.YtgikochfffdpfaaGreatDoorSheetoutBackMe
import Derived.Test.YtgikochfffdpfaaGreatDoorSheetoutBackMx
import Derived.Test.YtgikochfffdpfaaGreatDoorSheetoutBackMbz
import Derived.Test.YtgikochfffdpfaaGreatDoorCards
import Derived.Test.YtgikochfffdpfaaGreatDoorTie
import Derived.Lay
namespace Go.Proofs.YtgikochfffdpfaaGreatDoor
open Go.RowKit Go.Lib Go.ChangeShapes Go.WideShapes Go.ChangeAt
theorem sheetoutBack_own:ownKnob Tryz.prog.godebug=none:=by kernel_rfl
theorem sheetoutBack_laid:laidOutB Tryz.prog=true:=by kernel_rfl
theorem sheetoutBack_reads:Tryz.f4.params.toList.all (fun t=> Tryz.prog.readableRec t&&decide (t<Tryz.prog.types.size))=true:=by kernel_rfl
set_option maxRecDepth 100000 in
theorem sheetoutBack_lifted (os:Os) (started:os.Started) (H:Type) (enc:TypeId×Value→H):
  ReturnsInHanded {} Tryz.checked os 4 .any (fun w args=> (Rows.sheetoutBackSpec.pre enc Tryz.prog Tryz.f4 Rows.sheetoutBackRow.domain false w args∧laidMetH Tryz.prog Rows.sheetoutBackRow.laid w)∧sizedMet enc Tryz.prog Tryz.f4 (OpenSpec.ofChange Rows.sheetoutBackSpec) false w args)
   (Rows.sheetoutBackSpec.post enc Tryz.prog Tryz.f4 false true false false):=by
 refine returnsInHanded_of_change_and (C:=Tryz.checked) (X:=fun w _=> laidMetH Tryz.prog Rows.sheetoutBackRow.laid w) (fun _ _ _ hh h=> h.of_heap hh) sheetoutBack_own started (by kernel_rfl) Tryz.func4
  (ChangeSpec.witness_shaped (enc:=enc) (C:=Tryz.checked) (os:=os) (X:=fun w _=> laidMetH Tryz.prog Rows.sheetoutBackRow.laid w) false (World.laidAll Tryz.prog os Rows.sheetoutBackRow.laid) #[.agg (Yay Yp9 (.slice none 0 0) (.slice none 0 0) 0).toArray,.agg (Yay Yp9 (.slice none 0 0) (.slice none 0 0) 0).toArray,.string ⟨#[]⟩] 8 (World.laidAll_os _ _ _)
   (World.shaped_of_ZipB (by kernel_rfl) (by kernel_rfl)) (by kernel_rfl) (by kernel_rfl) (by kernel_rfl)
   (by rw [MakeChecks.laidMetH_plain _ _ _ (by kernel_rfl)];exact laidMet_laidAll _ (by kernel_rfl) (by kernel_rfl))) ?_
 intro W base args ds gs before hval0 hW _ hsz0 hL _
 have hval:∀(j:Nat) t v,Tryz.f4.params[j]? = some t→args[j]? = some v→Value.okWide Tryz.prog W .any base t v:=hval0
 have hW':=hW
 obtain ⟨p,q,hA0,hV,rfl,hfz,hnd⟩:=hW
 have hA:DataW.TrodAll enc Tryz.prog W 0 (fun _=> true) true Tryz.f4.params.toList args.toList ds p:=hA0
 rw [Tryz.params4] at hA hval
 obtain ⟨v0,vs0,d0,ds0,p0,q0,hargs,rfl,rfl,h0,r0⟩:=trodAll_cons hA
 obtain ⟨v1,vs1,d1,ds1,p1,q1,rfl,rfl,rfl,h1,r1⟩:=trodAll_cons r0
 obtain ⟨v2,vs2,d2,ds2,p2,q2,rfl,rfl,rfl,h2,r2⟩:=trodAll_cons r1
 obtain ⟨rfl,rfl,rfl⟩:=trodAll_nil r2
 obtain rfl:args = #[v0,v1,v2]:=by cases args;simp_all
 obtain ⟨rfl,rfl⟩:=trodVars_none hV
 obtain ⟨S0,vs0',rfl,x0⟩:=Yq1 Tryz.underlying25 Tryz.underlying3 Tryz.underlying4 Tryz.underlying22 Tryz.underlying23 ⟨rfl,rfl,rfl,rfl,rfl,rfl,rfl,rfl⟩ ⟨rfl,rfl,rfl,rfl,rfl,rfl,rfl,rfl⟩ (by kernel_rfl) (by kernel_rfl) (by kernel_rfl) (by kernel_rfl) (by kernel_rfl) (by kernel_rfl) (Y80 Tryz.underlying59 Tryz.underlying4 Tryz.underlying3 Tryz.underlying57 ⟨rfl,rfl,rfl,rfl⟩ ⟨rfl,rfl,rfl,rfl⟩ (by kernel_rfl) (by kernel_rfl) (by kernel_rfl) (by kernel_rfl) (Y5y Tryz.underlying56 Tryz.underlying4 Tryz.underlying3 Tryz.underlying51 Tryz.underlying52 Tryz.underlying54 Tryz.underlying53 ⟨rfl,rfl,rfl,rfl,rfl,rfl,rfl⟩ ⟨rfl,rfl,rfl,rfl,rfl,rfl,rfl⟩ (by kernel_rfl) (by kernel_rfl) (by kernel_rfl) (by kernel_rfl) (by kernel_rfl) (by kernel_rfl) (by kernel_rfl) (Yu8 Tryz.underlying130 Tryz.underlying4 Tryz.underlying3 rfl rfl rfl rfl rfl rfl (by kernel_rfl) (by kernel_rfl)))) (hval 0 25 v0 rfl rfl) h0
 obtain ⟨S1,vs1',rfl,x1⟩:=Yq1 Tryz.underlying25 Tryz.underlying3 Tryz.underlying4 Tryz.underlying22 Tryz.underlying23 ⟨rfl,rfl,rfl,rfl,rfl,rfl,rfl,rfl⟩ ⟨rfl,rfl,rfl,rfl,rfl,rfl,rfl,rfl⟩ (by kernel_rfl) (by kernel_rfl) (by kernel_rfl) (by kernel_rfl) (by kernel_rfl) (by kernel_rfl) (Y80 Tryz.underlying59 Tryz.underlying4 Tryz.underlying3 Tryz.underlying57 ⟨rfl,rfl,rfl,rfl⟩ ⟨rfl,rfl,rfl,rfl⟩ (by kernel_rfl) (by kernel_rfl) (by kernel_rfl) (by kernel_rfl) (Y5y Tryz.underlying56 Tryz.underlying4 Tryz.underlying3 Tryz.underlying51 Tryz.underlying52 Tryz.underlying54 Tryz.underlying53 ⟨rfl,rfl,rfl,rfl,rfl,rfl,rfl⟩ ⟨rfl,rfl,rfl,rfl,rfl,rfl,rfl⟩ (by kernel_rfl) (by kernel_rfl) (by kernel_rfl) (by kernel_rfl) (by kernel_rfl) (by kernel_rfl) (by kernel_rfl) (Yu8 Tryz.underlying130 Tryz.underlying4 Tryz.underlying3 rfl rfl rfl rfl rfl rfl (by kernel_rfl) (by kernel_rfl)))) (hval 1 25 v1 rfl rfl) h1
 obtain ⟨a2,rfl,rfl,rfl,w2⟩:=Go.ChangeMaps.open_string Tryz.underlying9 (hval 2 9 v2 rfl rfl) h2
 have z2:a2.size≤140737488355328:=Nat.le_trans (sized_string hsz0 (j:=2) rfl rfl) (Nat.le_of_lt reachBytes_lt)
 clear hA0 hval0
 refine (Ylz S0 vs0' S1 vs1' a2 W x0 x1 w2 z2 (Qbl hL ⟨by simp [Rows.sheetoutBackRow],by kernel_rfl⟩)).mono fun e W' ⟨he,hb⟩=> ?_
 subst he
 exact ⟨_,rfl,Qf2 sheetoutBack_laid sheetoutBack_reads rfl Tryz.underlying4 rfl hW' rfl hb⟩
theorem sheetoutBack_j1:(Rows.sheetoutBackRow.inPlace==Tryz.prog.inPlace 4)=true:=by kernel_rfl
theorem sheetoutBack_j2:(Rows.sheetoutBackRow.unfollowed==Tryz.prog.unfollowed 4)=true:=by kernel_rfl
theorem sheetoutBack_j3:(Rows.sheetoutBackRow.recurses==Tryz.prog.recurses 4)=true:=by kernel_rfl
theorem sheetoutBack_j4:(Rows.sheetoutBackRow.named==Tryz.prog.varsNamed 4)=true:=by kernel_rfl
theorem sheetoutBack_joined:joinedFacts Tryz.prog 4 Tryz.f4 Rows.sheetoutBackSpec Rows.sheetoutBackRow=true:=by
 unfold joinedFacts
 rw [sheetoutBack_j1,sheetoutBack_j2,sheetoutBack_j3,sheetoutBack_j4]
 kernel_rfl
theorem sheetoutBack_over:Rows.sheetoutBackRow.holds Tryz.pinned (OpenSpec.ofChange Rows.sheetoutBackSpec):=
 OpenClaim.holds_of_wide 4 Tryz.f4 rfl rfl rfl rfl rfl rfl rfl ⟨rfl,rfl,rfl,rfl,rfl⟩ rfl rfl rfl rfl rfl (by kernel_rfl) Tryz.func4 sheetoutBack_joined
  (of_decide_eq_true (by kernel_rfl)) (by unfold Func.isWrapper;first | (rw [if_pos (by decide +kernel)];kernel_rfl) | (rw [if_neg (by decide +kernel)];exact ⟨rfl,rfl⟩))
  (fun os started H enc _=> sheetoutBack_lifted os started H enc)
theorem sheetoutBack_holds:Rows.SheetoutBackCardSaid:=
 Claim7.holds_tied_plain_at .later [] [.data,.data,.data,.data,.data,.data,.data,.data,.data,.data,.data,.pinned] true Rows.sheetoutBackCard.stood.harness false sheetoutBack_over (fun _ h=> by cases h) (by kernel_rfl) (fun _ h=> by cases h) sheetoutBack_row_tie rfl ⟨rfl,rfl⟩ (by kernel_rfl) rfl
  (fun f fn hf hfn=> by
   obtain rfl : f = 4 := Option.some.inj ((show Tryz.prog.funcNamed "overspill/overspilllaw27.SheetoutBack" = some 4 by kernel_rfl).symm.trans hf) |>.symm
   obtain rfl:fn=Tryz.f4:=(Option.some.inj (Tryz.func4.symm.trans hfn)).symm
   exact ⟨by kernel_rfl,fun j t ht=> by
    rw [Tryz.params4] at ht
    have hm:t∈[25,25,9]:=by simpa using Array.mem_of_getElem? ht
    have hall:([25,25,9].all fun u=> !Tryz.prog.wantsStandIn u)=true:=by kernel_rfl
    exact (show Tryz.prog.wantsStandIn t=false by simpa using List.all_eq_true.1 hall t hm)⟩)
  (by kernel_rfl)
#print axioms sheetoutBack_holds
end Go.Proofs.YtgikochfffdpfaaGreatDoor
