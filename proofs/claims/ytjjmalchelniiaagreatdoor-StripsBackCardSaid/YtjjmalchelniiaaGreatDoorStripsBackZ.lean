/- The last step: A strip that was written is parsed as the same one; and the chapter's examples come out. Conditions: none but the law's own (up to 70 sheets, some 600 cells), and the card's: what the listed variables hold when the call begins. -/
import Derived.Test.YtjjmalchelniiaaGreatDoorStripsBackMbz
namespace Go.Proofs.YtjjmalchelniiaaGreatDoor
open Go.RowKit Go.Lib Go.ChangeShapes Go.WideShapes Go.ChangeAt
theorem stripsBack_t1:OpenClaim.wfByText (OpenSpec.ofChange Rows.stripsBackSpec) Rows.stripsBackRow=true:=by kernel_rfl
theorem stripsBack_t2:Tryz.pinned.checked.prog.mainIs=some (Rows.stripsBackCard.stood.harness.fst,Rows.stripsBackCard.stood.harness.snd.toList):=by kernel_rfl
theorem stripsBack_t3:false=Tryz.pinned.checked.prog.looks []:=by kernel_rfl
theorem stripsBack_t4:false=Rows.stripsBackRow.goesBy Tryz.pinned.checked.prog:=by kernel_rfl
theorem stripsBack_holds:Rows.StripsBackCardSaid:=
 Claim7.holds_tied_plain_at .later [] [.data,.data,.data,.data,.data,.data,.data,.data,.data,.data,.data,.pinned] true Rows.stripsBackCard.stood.harness false Yp0 (fun _ h=>by cases h) stripsBack_t1 (fun _ h=>by cases h) stripsBack_row_tie rfl ⟨rfl,rfl⟩ stripsBack_t2 rfl
  (fun f fn hf hfn=>by
   obtain rfl : f = 6 := Option.some.inj ((show Tryz.prog.funcNamed "overspill/overspilllaw28.StripsBack" = some 6 by kernel_rfl).symm.trans hf) |>.symm
   obtain rfl:fn=Tryz.f6:=(Option.some.inj (Tryz.func6.symm.trans hfn)).symm;exact⟨stripsBack_t3,fun j t ht=>by
    rw[Tryz.params6] at ht;have hm:t∈[24]:=by simpa using Array.mem_of_getElem? ht
    have hall:([24].all fun u=>!Tryz.prog.wantsStandIn u)=true:=by kernel_rfl
    exact(show Tryz.prog.wantsStandIn t=false by simpa using List.all_eq_true.1 hall t hm)⟩)
  stripsBack_t4
#print axioms stripsBack_holds
end Go.Proofs.YtjjmalchelniiaaGreatDoor
