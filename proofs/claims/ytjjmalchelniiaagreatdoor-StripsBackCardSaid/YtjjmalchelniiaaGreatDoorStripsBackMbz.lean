/- Part 52 of StripsBack. No condition. -/
import Derived.Test.YtjjmalchelniiaaGreatDoorStripsBackMf
import Derived.Test.YtjjmalchelniiaaGreatDoorStripsBackMx
import Derived.Test.YtjjmalchelniiaaGreatDoorStripsBackMby
import Derived.Test.YtjjmalchelniiaaGreatDoorCards
import Derived.Test.YtjjmalchelniiaaGreatDoorTie
import Derived.Lay
namespace Go.Proofs.YtjjmalchelniiaaGreatDoor
open Go.RowKit Go.Lib Go.ChangeShapes Go.WideShapes Go.ChangeAt
theorem Yq5:ownKnob Tryz.prog.godebug=none:=by kernel_rfl
theorem Ypz:laidOutB Tryz.prog=true:=by kernel_rfl
theorem Ym9:Tryz.f6.params.toList.all (fun t=>Tryz.prog.readableRec t&&decide (t<Tryz.prog.types.size))=true:=by kernel_rfl
set_option maxRecDepth 100000 in
theorem Yl9 (os:Os)(started:os.Started)(H:Type)(enc:TypeId×Value→H):
  ReturnsInHanded {} Tryz.checked os 6 .any (fun w args=>(Rows.stripsBackSpec.pre enc Tryz.prog Tryz.f6 Rows.stripsBackRow.domain false w args∧laidMetH Tryz.prog Rows.stripsBackRow.laid w)∧sizedMet enc Tryz.prog Tryz.f6 (OpenSpec.ofChange Rows.stripsBackSpec) false w args)
   (Rows.stripsBackSpec.post enc Tryz.prog Tryz.f6 false true false false):=by
 refine returnsInHanded_of_change_and (C:=Tryz.checked) (X:=fun w _=>laidMetH Tryz.prog Rows.stripsBackRow.laid w) (fun _ _ _ hh h=>h.of_heap hh) Yq5 started (by kernel_rfl) Tryz.func6
  (ChangeSpec.witness_shaped (enc:=enc) (C:=Tryz.checked) (os:=os) (X:=fun w _=>laidMetH Tryz.prog Rows.stripsBackRow.laid w) false (World.laidAll Tryz.prog os Rows.stripsBackRow.laid) #[.agg #[.slice none 0 0,.bool false]] 8 (World.laidAll_os _ _ _)
   (World.shaped_of_ZipB (by kernel_rfl) (by kernel_rfl)) (by kernel_rfl) (by kernel_rfl) (by kernel_rfl)
   (by rw[MakeChecks.laidMetH_plain _ _ _ (by kernel_rfl)];exact laidMet_laidAll _ (by kernel_rfl) (by kernel_rfl))) ?_
 intro W base args ds gs before hval0 hW _ hsz0 hL _;have hval:∀(j:Nat) t v,Tryz.f6.params[j]? =some t→args[j]? =some v→Value.okWide Tryz.prog W .any base t v:=hval0;have hW':=hW;obtain⟨p,q,hA0,hV,rfl,hfz,hnd⟩:=hW;have hA:DataW.TrodAll enc Tryz.prog W 0 (fun _=>true) true Tryz.f6.params.toList args.toList ds p:=hA0;rw[Tryz.params6] at hA hval
 obtain⟨v0,vs0,d0,ds0,p0,q0,hargs,rfl,rfl,h0,r0⟩:=trodAll_cons hA;obtain⟨rfl,rfl,rfl⟩:=trodAll_nil r0;obtain rfl:args=#[v0]:=by cases args;simp_all
 obtain⟨rfl,rfl⟩:=trodVars_none hV
 obtain⟨T0,vs0',rfl,x0⟩:=Y5r Tryz.underlying24 Tryz.underlying4 Tryz.underlying22 ⟨rfl,rfl⟩ ⟨rfl,rfl⟩ (by kernel_rfl) (by kernel_rfl) (by kernel_rfl) (by kernel_rfl) (Qk3 Tryz.underlying39 Tryz.underlying3 Tryz.underlying4 Tryz.underlying36 Tryz.underlying37 ⟨rfl,rfl,rfl,rfl,rfl,rfl,rfl,rfl⟩ ⟨rfl,rfl,rfl,rfl,rfl,rfl,rfl,rfl⟩ (by kernel_rfl) (by kernel_rfl) (by kernel_rfl) (by kernel_rfl) (by kernel_rfl) (Qjo Tryz.underlying46 Tryz.underlying4 Tryz.underlying3 Tryz.underlying44 ⟨rfl,rfl,rfl,rfl⟩ ⟨rfl,rfl,rfl,rfl⟩ (by kernel_rfl) (by kernel_rfl) (by kernel_rfl) (by kernel_rfl) (Qio Tryz.underlying77 Tryz.underlying4 Tryz.underlying3 Tryz.underlying73 Tryz.underlying74 Tryz.underlying75 Tryz.underlying72 ⟨rfl,rfl,rfl,rfl,rfl,rfl,rfl⟩ ⟨rfl,rfl,rfl,rfl,rfl,rfl,rfl⟩ (by kernel_rfl) (by kernel_rfl) (by kernel_rfl) (by kernel_rfl) (by kernel_rfl) (by kernel_rfl) (by kernel_rfl) (Y9v Tryz.underlying153 Tryz.underlying4 Tryz.underlying3 rfl rfl rfl rfl rfl rfl (by kernel_rfl) (by kernel_rfl))))) (hval 0 24 v0 rfl rfl) h0
 clear hA0 hval0;refine(Yp1 T0 vs0' W x0 (Qei hL ⟨by simp[Rows.stripsBackRow],by kernel_rfl⟩)).mono fun e W' ⟨he,hb⟩=>?_;subst he;exact⟨_,rfl,Qi8 Ypz Ym9 rfl Tryz.underlying4 rfl hW' rfl hb⟩
theorem Yus:(Rows.stripsBackRow.inPlace==Tryz.prog.inPlace 6)=true:=by kernel_rfl
theorem Yut:(Rows.stripsBackRow.unfollowed==Tryz.prog.unfollowed 6)=true:=by kernel_rfl
theorem Yuu:(Rows.stripsBackRow.recurses==Tryz.prog.recurses 6)=true:=by kernel_rfl
theorem Yuv:(Rows.stripsBackRow.named==Tryz.prog.varsNamed 6)=true:=by kernel_rfl
theorem Yl8:joinedFacts Tryz.prog 6 Tryz.f6 Rows.stripsBackSpec Rows.stripsBackRow=true:=by
 unfold joinedFacts;rw[Yus,Yut,Yuu,Yuv]
 kernel_rfl
theorem Yp0:Rows.stripsBackRow.holds Tryz.pinned (OpenSpec.ofChange Rows.stripsBackSpec):=
 OpenClaim.holds_of_wide 6 Tryz.f6 rfl rfl rfl rfl rfl rfl rfl ⟨rfl,rfl,rfl,rfl,rfl⟩ rfl rfl rfl rfl rfl (by kernel_rfl) Tryz.func6 Yl8
  (of_decide_eq_true (by kernel_rfl)) (by unfold Func.isWrapper;first|(rw[if_pos (by decide +kernel)];kernel_rfl)|(rw[if_neg (by decide +kernel)];exact⟨rfl,rfl⟩))
  (fun os started H enc _=>Yl9 os started H enc)
end Go.Proofs.YtjjmalchelniiaaGreatDoor