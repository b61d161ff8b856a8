/- The last step: Which strips may be, and which are the same, is what the page says; and the chapter's examples come out. Conditions: none but the law's own (up to 70 sheets, some 600 cells), and the card's: what the listed variables hold when the call begins. -/
import Derived.Test.YtjjmalchelniiaaGreatDoorStripsChecksMbz
open Go.Proofs.Tryz
namespace Go.Proofs.YtjjmalchelniiaaGreatDoor
open Go.RowKit Go.Lib Go.ChangeShapes Go.WideShapes Go.ChangeAt
theorem stripsChecks_t1:OpenClaim.wfByText (OpenSpec.ofChange Rows.stripsChecksSpec) Rows.stripsChecksRow=true:=by kernel_rfl
theorem stripsChecks_t2:Tryz.pinned.checked.prog.mainIs=some (Rows.stripsChecksCard.stood.harness.fst,Rows.stripsChecksCard.stood.harness.snd.toList):=by kernel_rfl
theorem stripsChecks_t3:false=Tryz.pinned.checked.prog.looks []:=by kernel_rfl
theorem stripsChecks_t4:false=Rows.stripsChecksRow.goesBy Tryz.pinned.checked.prog:=by kernel_rfl
theorem stripsChecks_holds:Rows.StripsChecksCardSaid:=
 Claim7.holds_tied_plain_at .later [] [.data,.data,.data,.data,.data,.data,.data,.data,.data,.data,.data,.pinned] true Rows.stripsChecksCard.stood.harness false iF (fun _ h=>by cases h) stripsChecks_t1 (fun _ h=>by cases h) stripsChecks_row_tie rfl ⟨rfl,rfl⟩ stripsChecks_t2 rfl
  (fun f fn hf hfn=>by
   obtain rfl : f = 3 := Option.some.inj ((show prog.funcNamed "overspill/overspilllaw28.StripsChecks" = some 3 by kernel_rfl).symm.trans hf) |>.symm
   obtain rfl:fn=Tryz.f3:=(B6 (func3.symm.trans hfn)).symm;exact⟨stripsChecks_t3,fun j t ht=>by
    rw[params3] at ht;have hm:t∈[24,24]:=by simpa using Array.mem_of_getElem? ht
    have hall:([24,24].all fun u=>!prog.wantsStandIn u)=true:=by kernel_rfl
    exact(show prog.wantsStandIn t=false by simpa using Bu.1 hall t hm)⟩)
  stripsChecks_t4
#print axioms stripsChecks_holds
end Go.Proofs.YtjjmalchelniiaaGreatDoor
