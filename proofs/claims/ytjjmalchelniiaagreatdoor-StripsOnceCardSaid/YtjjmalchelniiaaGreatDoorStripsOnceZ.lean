/- The last step: A text that is parsed is the text of a strip that may be, and of that alone; and the chapter's examples come out. Conditions: none but the law's own (texts of up to 6,000 bytes), and the card's: what the listed variables hold when the call begins. -/
import Derived.Test.YtjjmalchelniiaaGreatDoorStripsOnceMbz
namespace Go.Proofs.YtjjmalchelniiaaGreatDoor
open Go.RowKit Go.Lib Go.ChangeShapes Go.WideShapes Go.ChangeAt
theorem stripsOnce_t1:OpenClaim.wfByText (OpenSpec.ofChange Rows.stripsOnceSpec) Rows.stripsOnceRow=true:=by kernel_rfl
theorem stripsOnce_t2:Tryz.pinned.checked.prog.mainIs=some (Rows.stripsOnceCard.stood.harness.fst,Rows.stripsOnceCard.stood.harness.snd.toList):=by kernel_rfl
theorem stripsOnce_t3:false=Tryz.pinned.checked.prog.looks []:=by kernel_rfl
theorem stripsOnce_t4:false=Rows.stripsOnceRow.goesBy Tryz.pinned.checked.prog:=by kernel_rfl
theorem stripsOnce_holds:Rows.StripsOnceCardSaid:=
 Claim7.holds_tied_plain_at .later [] [.data,.data,.data,.data,.data,.data,.data,.data,.data,.data,.data,.pinned] true Rows.stripsOnceCard.stood.harness false Ypv (fun _ h=>by cases h) stripsOnce_t1 (fun _ h=>by cases h) stripsOnce_row_tie rfl ⟨rfl,rfl⟩ stripsOnce_t2 rfl
  (fun f fn hf hfn=>by
   obtain rfl : f = 7 := Option.some.inj ((show Tryz.prog.funcNamed "overspill/overspilllaw28.StripsOnce" = some 7 by kernel_rfl).symm.trans hf) |>.symm
   obtain rfl:fn=Tryz.f7:=(Option.some.inj (Tryz.func7.symm.trans hfn)).symm;exact⟨stripsOnce_t3,fun j t ht=>by
    rw[Tryz.params7] at ht;have hm:t∈[9]:=by simpa using Array.mem_of_getElem? ht
    have hall:([9].all fun u=>!Tryz.prog.wantsStandIn u)=true:=by kernel_rfl
    exact(show Tryz.prog.wantsStandIn t=false by simpa using List.all_eq_true.1 hall t hm)⟩)
  stripsOnce_t4
#print axioms stripsOnce_holds
end Go.Proofs.YtjjmalchelniiaaGreatDoor
