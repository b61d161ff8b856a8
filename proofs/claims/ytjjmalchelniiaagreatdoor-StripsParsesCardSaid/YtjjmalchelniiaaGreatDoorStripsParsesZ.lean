/- The last step: Which strip any text is, or what is wrong, and where, is what the page says; and the chapter's examples come out. Conditions: none but the law's own (texts of up to 6,000 bytes, or of more than 262,144), and the card's: what the listed variables hold when the call begins. -/
import Derived.Test.YtjjmalchelniiaaGreatDoorZpbz
open Go.Proofs.Tryz
namespace Go.Proofs.YtjjmalchelniiaaGreatDoor
open Go.RowKit Go.Lib Go.ChangeShapes Go.WideShapes Go.ChangeAt
theorem stripsParses_t1:OpenClaim.wfByText (OpenSpec.ofChange Rows.stripsParsesSpec) Rows.stripsParsesRow=true:=by kernel_rfl
theorem stripsParses_t2:Tryz.pinned.checked.prog.mainIs=some (Rows.stripsParsesCard.stood.harness.fst,Rows.stripsParsesCard.stood.harness.snd.toList):=by kernel_rfl
theorem stripsParses_t3:false=Tryz.pinned.checked.prog.looks []:=by kernel_rfl
theorem stripsParses_t4:false=Rows.stripsParsesRow.goesBy Tryz.pinned.checked.prog:=by kernel_rfl
theorem stripsParses_holds:Rows.StripsParsesCardSaid:=
 Claim7.holds_tied_plain_at .later [] [.data,.data,.data,.data,.data,.data,.data,.data,.data,.data,.data,.pinned] true Rows.stripsParsesCard.stood.harness false jP (fun _ h=>by cases h) stripsParses_t1 (fun _ h=>by cases h) stripsParses_row_tie rfl ⟨rfl,rfl⟩ stripsParses_t2 rfl
  (fun f fn hf hfn=>by
   obtain rfl : f = 4 := Option.some.inj ((show prog.funcNamed "overspill/overspilllaw28.StripsParses" = some 4 by kernel_rfl).symm.trans hf) |>.symm
   obtain rfl:fn=Tryz.f4:=(B5 (func4.symm.trans hfn)).symm;exact⟨stripsParses_t3,fun j t ht=>by
    rw[params4] at ht;have hm:t∈[9]:=by simpa using Array.mem_of_getElem? ht
    have hall:([9].all fun u=>!prog.wantsStandIn u)=true:=by kernel_rfl
    exact(show prog.wantsStandIn t=false by simpa using Bw.1 hall t hm)⟩)
  stripsParses_t4
#print axioms stripsParses_holds
end Go.Proofs.YtjjmalchelniiaaGreatDoor
