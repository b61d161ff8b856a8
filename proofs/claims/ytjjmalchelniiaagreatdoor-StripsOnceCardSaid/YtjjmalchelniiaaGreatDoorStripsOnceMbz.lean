/- Part 52 of StripsOnce. No condition. -/
import Derived.Test.YtjjmalchelniiaaGreatDoorStripsOnceMf
import Derived.Test.YtjjmalchelniiaaGreatDoorStripsOnceMx
import Derived.Test.YtjjmalchelniiaaGreatDoorStripsOnceMby
import Derived.Test.YtjjmalchelniiaaGreatDoorCards
import Derived.Test.YtjjmalchelniiaaGreatDoorTie
import Derived.Lay
namespace Go.Proofs.YtjjmalchelniiaaGreatDoor
open Go.RowKit Go.Lib Go.ChangeShapes Go.WideShapes Go.ChangeAt
theorem Yqu:ownKnob Tryz.prog.godebug=none:=by kernel_rfl
theorem Ypu:laidOutB Tryz.prog=true:=by kernel_rfl
theorem Ym2:Tryz.f7.params.toList.all (fun t=>Tryz.prog.readableRec t&&decide (t<Tryz.prog.types.size))=true:=by kernel_rfl
set_option maxRecDepth 100000 in
theorem Yl0 (os:Os)(started:os.Started)(H:Type)(enc:TypeId×Value→H):
  ReturnsInHanded {} Tryz.checked os 7 .any (fun w args=>(Rows.stripsOnceSpec.pre enc Tryz.prog Tryz.f7 Rows.stripsOnceRow.domain false w args∧laidMetH Tryz.prog Rows.stripsOnceRow.laid w)∧sizedMet enc Tryz.prog Tryz.f7 (OpenSpec.ofChange Rows.stripsOnceSpec) false w args)
   (Rows.stripsOnceSpec.post enc Tryz.prog Tryz.f7 false true false false):=by
 refine returnsInHanded_of_change_and (C:=Tryz.checked) (X:=fun w _=>laidMetH Tryz.prog Rows.stripsOnceRow.laid w) (fun _ _ _ hh h=>h.of_heap hh) Yqu started (by kernel_rfl) Tryz.func7
  (ChangeSpec.witness_shaped (enc:=enc) (C:=Tryz.checked) (os:=os) (X:=fun w _=>laidMetH Tryz.prog Rows.stripsOnceRow.laid w) false (World.laidAll Tryz.prog os Rows.stripsOnceRow.laid) #[.string ⟨#[]⟩] 8 (World.laidAll_os _ _ _)
   (World.shaped_of_ZipB (by kernel_rfl) (by kernel_rfl)) (by kernel_rfl) (by kernel_rfl) (by kernel_rfl)
   (by rw[MakeChecks.laidMetH_plain _ _ _ (by kernel_rfl)];exact laidMet_laidAll _ (by kernel_rfl) (by kernel_rfl))) ?_
 intro W base args ds gs before hval0 hW _ hsz0 hL _;have hval:∀(j:Nat) t v,Tryz.f7.params[j]? =some t→args[j]? =some v→Value.okWide Tryz.prog W .any base t v:=hval0;have hW':=hW;obtain⟨p,q,hA0,hV,rfl,hfz,hnd⟩:=hW;have hA:DataW.TrodAll enc Tryz.prog W 0 (fun _=>true) true Tryz.f7.params.toList args.toList ds p:=hA0;rw[Tryz.params7] at hA hval
 obtain⟨v0,vs0,d0,ds0,p0,q0,hargs,rfl,rfl,h0,r0⟩:=trodAll_cons hA;obtain⟨rfl,rfl,rfl⟩:=trodAll_nil r0;obtain rfl:args=#[v0]:=by cases args;simp_all
 obtain⟨rfl,rfl⟩:=trodVars_none hV;obtain⟨a0,rfl,rfl,rfl,w0⟩:=Go.ChangeMaps.open_string Tryz.underlying9 (hval 0 9 v0 rfl rfl) h0;have z0:a0.size≤140737488355328:=Nat.le_trans (sized_string hsz0 (j:=0) rfl rfl) (Nat.le_of_lt reachBytes_lt);clear hA0 hval0;refine(Ypw a0 W w0 z0 (Qc7 hL ⟨by simp[Rows.stripsOnceRow],by kernel_rfl⟩)).mono fun e W' ⟨he,hb⟩=>?_;subst he
 exact⟨_,rfl,Qhz Ypu Ym2 rfl Tryz.underlying4 rfl hW' rfl hb⟩
theorem Yuj:(Rows.stripsOnceRow.inPlace==Tryz.prog.inPlace 7)=true:=by kernel_rfl
theorem Yuk:(Rows.stripsOnceRow.unfollowed==Tryz.prog.unfollowed 7)=true:=by kernel_rfl
theorem Yul:(Rows.stripsOnceRow.recurses==Tryz.prog.recurses 7)=true:=by kernel_rfl
theorem Yum:(Rows.stripsOnceRow.named==Tryz.prog.varsNamed 7)=true:=by kernel_rfl
theorem Ylz:joinedFacts Tryz.prog 7 Tryz.f7 Rows.stripsOnceSpec Rows.stripsOnceRow=true:=by
 unfold joinedFacts;rw[Yuj,Yuk,Yul,Yum]
 kernel_rfl
theorem Ypv:Rows.stripsOnceRow.holds Tryz.pinned (OpenSpec.ofChange Rows.stripsOnceSpec):=
 OpenClaim.holds_of_wide 7 Tryz.f7 rfl rfl rfl rfl rfl rfl rfl ⟨rfl,rfl,rfl,rfl,rfl⟩ rfl rfl rfl rfl rfl (by kernel_rfl) Tryz.func7 Ylz
  (of_decide_eq_true (by kernel_rfl)) (by unfold Func.isWrapper;first|(rw[if_pos (by decide +kernel)];kernel_rfl)|(rw[if_neg (by decide +kernel)];exact⟨rfl,rfl⟩))
  (fun os started H enc _=>Yl0 os started H enc)
end Go.Proofs.YtjjmalchelniiaaGreatDoor