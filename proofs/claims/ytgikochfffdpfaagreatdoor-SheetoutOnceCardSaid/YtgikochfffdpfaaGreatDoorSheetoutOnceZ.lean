/- A sheet that is read at any bit of any text is written as just the bits that it was read from; and the chapter's example comes out. Conditions: none but the law's own (texts of up to 2,000 bytes), and the card's: what the listed variables hold when the call begins. -/
import Derived.Test.YtgikochfffdpfaaGreatDoorSheetoutOnceMe
import Derived.Test.YtgikochfffdpfaaGreatDoorSheetoutOnceMx
import Derived.Test.YtgikochfffdpfaaGreatDoorSheetoutOnceMbz
import Derived.Test.YtgikochfffdpfaaGreatDoorCards
import Derived.Test.YtgikochfffdpfaaGreatDoorTie
import Derived.Lay
namespace Go.Proofs.YtgikochfffdpfaaGreatDoor
open Go.RowKit Go.Lib Go.ChangeShapes Go.WideShapes Go.ChangeAt
theorem sheetoutOnce_own:ownKnob Tryz.prog.godebug=none:=by kernel_rfl
theorem sheetoutOnce_laid:laidOutB Tryz.prog=true:=by kernel_rfl
theorem sheetoutOnce_reads:Tryz.f5.params.toList.all (fun t=> Tryz.prog.readableRec t&&decide (t<Tryz.prog.types.size))=true:=by kernel_rfl
set_option maxRecDepth 100000 in
theorem sheetoutOnce_lifted (os:Os) (started:os.Started) (H:Type) (enc:TypeId×Value→H):
  ReturnsInHanded {} Tryz.checked os 5 .any (fun w args=> (Rows.sheetoutOnceSpec.pre enc Tryz.prog Tryz.f5 Rows.sheetoutOnceRow.domain false w args∧laidMetH Tryz.prog Rows.sheetoutOnceRow.laid w)∧sizedMet enc Tryz.prog Tryz.f5 (OpenSpec.ofChange Rows.sheetoutOnceSpec) false w args)
   (Rows.sheetoutOnceSpec.post enc Tryz.prog Tryz.f5 false true false false):=by
 refine returnsInHanded_of_change_and (C:=Tryz.checked) (X:=fun w _=> laidMetH Tryz.prog Rows.sheetoutOnceRow.laid w) (fun _ _ _ hh h=> h.of_heap hh) sheetoutOnce_own started (by kernel_rfl) Tryz.func5
  (ChangeSpec.witness_shaped (enc:=enc) (C:=Tryz.checked) (os:=os) (X:=fun w _=> laidMetH Tryz.prog Rows.sheetoutOnceRow.laid w) false (World.laidAll Tryz.prog os Rows.sheetoutOnceRow.laid) #[.string ⟨#[]⟩,.int .i64 0] 8 (World.laidAll_os _ _ _)
   (World.shaped_of_ZipB (by kernel_rfl) (by kernel_rfl)) (by kernel_rfl) (by kernel_rfl) (by kernel_rfl)
   (by rw [MakeChecks.laidMetH_plain _ _ _ (by kernel_rfl)];exact laidMet_laidAll _ (by kernel_rfl) (by kernel_rfl))) ?_
 intro W base args ds gs before hval0 hW _ hsz0 hL _
 have hval:∀(j:Nat) t v,Tryz.f5.params[j]? = some t→args[j]? = some v→Value.okWide Tryz.prog W .any base t v:=hval0
 have hW':=hW
 obtain ⟨p,q,hA0,hV,rfl,hfz,hnd⟩:=hW
 have hA:DataW.TrodAll enc Tryz.prog W 0 (fun _=> true) true Tryz.f5.params.toList args.toList ds p:=hA0
 rw [Tryz.params5] at hA hval
 obtain ⟨v0,vs0,d0,ds0,p0,q0,hargs,rfl,rfl,h0,r0⟩:=trodAll_cons hA
 obtain ⟨v1,vs1,d1,ds1,p1,q1,rfl,rfl,rfl,h1,r1⟩:=trodAll_cons r0
 obtain ⟨rfl,rfl,rfl⟩:=trodAll_nil r1
 obtain rfl:args = #[v0,v1]:=by cases args;simp_all
 obtain ⟨rfl,rfl⟩:=trodVars_none hV
 obtain ⟨a0,rfl,rfl,rfl,w0⟩:=Go.ChangeMaps.open_string Tryz.underlying9 (hval 0 9 v0 rfl rfl) h0
 have z0:a0.size≤140737488355328:=Nat.le_trans (sized_string hsz0 (j:=0) rfl rfl) (Nat.le_of_lt reachBytes_lt)
 obtain ⟨a1,rfl,rfl,rfl,w1⟩:=open_int Tryz.underlying3 (hval 1 3 v1 rfl rfl) h1
 clear hA0 hval0
 refine (Ykt a0 a1 W w0 z0 w1 (Y8l hL ⟨by simp [Rows.sheetoutOnceRow],by kernel_rfl⟩)).mono fun e W' ⟨he,hb⟩=> ?_
 subst he
 exact ⟨_,rfl,Qc0 sheetoutOnce_laid sheetoutOnce_reads rfl Tryz.underlying4 rfl hW' rfl hb⟩
theorem sheetoutOnce_j1:(Rows.sheetoutOnceRow.inPlace==Tryz.prog.inPlace 5)=true:=by kernel_rfl
theorem sheetoutOnce_j2:(Rows.sheetoutOnceRow.unfollowed==Tryz.prog.unfollowed 5)=true:=by kernel_rfl
theorem sheetoutOnce_j3:(Rows.sheetoutOnceRow.recurses==Tryz.prog.recurses 5)=true:=by kernel_rfl
theorem sheetoutOnce_j4:(Rows.sheetoutOnceRow.named==Tryz.prog.varsNamed 5)=true:=by kernel_rfl
theorem sheetoutOnce_joined:joinedFacts Tryz.prog 5 Tryz.f5 Rows.sheetoutOnceSpec Rows.sheetoutOnceRow=true:=by
 unfold joinedFacts
 rw [sheetoutOnce_j1,sheetoutOnce_j2,sheetoutOnce_j3,sheetoutOnce_j4]
 kernel_rfl
theorem sheetoutOnce_over:Rows.sheetoutOnceRow.holds Tryz.pinned (OpenSpec.ofChange Rows.sheetoutOnceSpec):=
 OpenClaim.holds_of_wide 5 Tryz.f5 rfl rfl rfl rfl rfl rfl rfl ⟨rfl,rfl,rfl,rfl,rfl⟩ rfl rfl rfl rfl rfl (by kernel_rfl) Tryz.func5 sheetoutOnce_joined
  (of_decide_eq_true (by kernel_rfl)) (by unfold Func.isWrapper;first | (rw [if_pos (by decide +kernel)];kernel_rfl) | (rw [if_neg (by decide +kernel)];exact ⟨rfl,rfl⟩))
  (fun os started H enc _=> sheetoutOnce_lifted os started H enc)
theorem sheetoutOnce_holds:Rows.SheetoutOnceCardSaid:=
 Claim7.holds_tied_plain_at .later [] [.data,.data,.data,.data,.data,.data,.data,.data,.data,.data,.data,.pinned] true Rows.sheetoutOnceCard.stood.harness false sheetoutOnce_over (fun _ h=> by cases h) (by kernel_rfl) (fun _ h=> by cases h) sheetoutOnce_row_tie rfl ⟨rfl,rfl⟩ (by kernel_rfl) rfl
  (fun f fn hf hfn=> by
   obtain rfl : f = 5 := Option.some.inj ((show Tryz.prog.funcNamed "overspill/overspilllaw27.SheetoutOnce" = some 5 by kernel_rfl).symm.trans hf) |>.symm
   obtain rfl:fn=Tryz.f5:=(Option.some.inj (Tryz.func5.symm.trans hfn)).symm
   exact ⟨by kernel_rfl,fun j t ht=> by
    rw [Tryz.params5] at ht
    have hm:t∈[9,3]:=by simpa using Array.mem_of_getElem? ht
    have hall:([9,3].all fun u=> !Tryz.prog.wantsStandIn u)=true:=by kernel_rfl
    exact (show Tryz.prog.wantsStandIn t=false by simpa using List.all_eq_true.1 hall t hm)⟩)
  (by kernel_rfl)
#print axioms sheetoutOnce_holds
end Go.Proofs.YtgikochfffdpfaaGreatDoor
