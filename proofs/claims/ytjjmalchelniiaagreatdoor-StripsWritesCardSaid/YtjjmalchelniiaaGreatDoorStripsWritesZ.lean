/- The last step: The text of any strip, or what is wrong, is what the page says; and the chapter's examples come out. Conditions: none but the law's own (up to 70 sheets, some 600 cells; noughts up to 2,000, or enough to be too many), and the card's: what the listed variables hold when the call begins. -/
import Derived.Test.YtjjmalchelniiaaGreatDoorStripsWritesMbz
open Go.Proofs.Tryz
namespace Go.Proofs.YtjjmalchelniiaaGreatDoor
open Go.RowKit Go.Lib Go.ChangeShapes Go.WideShapes Go.ChangeAt
theorem stripsWrites_t1:OpenClaim.wfByText (OpenSpec.ofChange Rows.stripsWritesSpec) Rows.stripsWritesRow=true:=by kernel_rfl
theorem stripsWrites_t2:Tryz.pinned.checked.prog.mainIs=some (Rows.stripsWritesCard.stood.harness.fst,Rows.stripsWritesCard.stood.harness.snd.toList):=by kernel_rfl
theorem stripsWrites_t3:false=Tryz.pinned.checked.prog.looks []:=by kernel_rfl
theorem stripsWrites_t4:false=Rows.stripsWritesRow.goesBy Tryz.pinned.checked.prog:=by kernel_rfl
theorem stripsWrites_holds:Rows.StripsWritesCardSaid:=
 Claim7.holds_tied_plain_at .later [] [.data,.data,.data,.data,.data,.data,.data,.data,.data,.data,.data,.pinned] true Rows.stripsWritesCard.stood.harness false pZ (fun _ h=>by cases h) stripsWrites_t1 (fun _ h=>by cases h) stripsWrites_row_tie rfl ⟨rfl,rfl⟩ stripsWrites_t2 rfl
  (fun f fn hf hfn=>by
   obtain rfl : f = 5 := Option.some.inj ((show prog.funcNamed "overspill/overspilllaw28.StripsWrites" = some 5 by kernel_rfl).symm.trans hf) |>.symm
   obtain rfl:fn=Tryz.f5:=(B5 (func5.symm.trans hfn)).symm;exact⟨stripsWrites_t3,fun j t ht=>by
    rw[params5] at ht;have hm:t∈[24]:=by simpa using Array.mem_of_getElem? ht
    have hall:([24].all fun u=>!prog.wantsStandIn u)=true:=by kernel_rfl
    exact(show prog.wantsStandIn t=false by simpa using Bu.1 hall t hm)⟩)
  stripsWrites_t4
#print axioms stripsWrites_holds
end Go.Proofs.YtjjmalchelniiaaGreatDoor
