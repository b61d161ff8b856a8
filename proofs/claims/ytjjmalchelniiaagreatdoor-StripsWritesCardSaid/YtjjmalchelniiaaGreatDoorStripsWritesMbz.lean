/- StripsWrites, 52. No condition. -/
import Derived.Test.YtjjmalchelniiaaGreatDoorStripsWritesMf
import Derived.Test.YtjjmalchelniiaaGreatDoorStripsWritesMw
import Derived.Test.YtjjmalchelniiaaGreatDoorStripsWritesMby
import Derived.Test.YtjjmalchelniiaaGreatDoorCards
import Derived.Test.YtjjmalchelniiaaGreatDoorTie
import Derived.Lay
open Go.Proofs.Tryz
namespace Go.Proofs.YtjjmalchelniiaaGreatDoor
open Go.RowKit Go.Lib Go.ChangeShapes Go.WideShapes Go.ChangeAt
abbrev Pk:=@underlying4
theorem Yph:ownKnob prog.godebug=none:=by kernel_rfl
theorem Yof:laidOutB prog=true:=by kernel_rfl
theorem tY:Tryz.f5.params.toList.all (fun t=>prog.readableRec t&&decide (t<prog.types.size))=true:=by kernel_rfl
set_option maxRecDepth 100000 in
theorem lB (os:Os)(a:os.Started)(H:Type)(enc:TypeId×Value->H):
  ReturnsInHanded {} checked os 5 .any (fun w args=>(Rows.stripsWritesSpec.pre enc prog Tryz.f5 Rows.stripsWritesRow.domain false w args/\laidMetH prog Rows.stripsWritesRow.laid w)/\sizedMet enc prog Tryz.f5 (OpenSpec.ofChange Rows.stripsWritesSpec) false w args)
   (Rows.stripsWritesSpec.post enc prog Tryz.f5 false true false false):=by
 refine returnsInHanded_of_change_and (C:=checked) (X:=fun w _=>laidMetH prog Rows.stripsWritesRow.laid w) (fun _ _ _ r h=>h.of_heap r) Yph a (by kernel_rfl) func5
  (ChangeSpec.witness_shaped (enc:=enc) (C:=checked) (os:=os) (X:=fun w _=>laidMetH prog Rows.stripsWritesRow.laid w) false (World.laidAll prog os Rows.stripsWritesRow.laid) #[.agg #[.slice none 0 0,.bool false]] 8 (World.laidAll_os _ _ _)
   (World.shaped_of_ZipB (by kernel_rfl) (by kernel_rfl)) (by kernel_rfl) (by kernel_rfl) (by kernel_rfl)
   (by rw[Je _ _ _ (by kernel_rfl)];exact laidMet_laidAll _ (by kernel_rfl) (by kernel_rfl))) ?_
 intro W base args ds J g b l _ m s _;have c:∀(j:Nat) t v,Tryz.f5.params[j]? =some t->args[j]? =some v->Value.okWide prog W .any base t v:=b;have i:=l;obtain⟨p,q,d,u,rfl,x,y⟩:=l;have n:DataW.TrodAll enc prog W 0 (fun _=>true) true Tryz.f5.params.toList args.toList ds p:=d;rw[params5] at n c
 obtain⟨o,z,d0,A,K,L,k,rfl,rfl,B,D⟩:=trodAll_cons n;obtain⟨rfl,rfl,rfl⟩:=trodAll_nil D;obtain rfl:args=#[o]:=by cases args;simp_all
 obtain⟨rfl,rfl⟩:=trodVars_none u
 obtain⟨E,f,rfl,F⟩:=zD Ph Pk underlying22 ⟨rfl,rfl⟩ ⟨rfl,rfl⟩ (by kernel_rfl) (by kernel_rfl) (by kernel_rfl) (by kernel_rfl) (gP Oa Gv Pk underlying36 underlying37 ⟨rfl,rfl,rfl,rfl,rfl,rfl,rfl,rfl⟩ ⟨rfl,rfl,rfl,rfl,rfl,rfl,rfl,rfl⟩ (by kernel_rfl) (by kernel_rfl) (by kernel_rfl) (by kernel_rfl) (by kernel_rfl) (nE O6 Pk Gv Oe ⟨rfl,rfl,rfl,rfl⟩ ⟨rfl,rfl,rfl,rfl⟩ (by kernel_rfl) (by kernel_rfl) (by kernel_rfl) (by kernel_rfl) (xY Mu Pk Gv Gq underlying74 underlying75 Le ⟨rfl,rfl,rfl,rfl,rfl,rfl,rfl⟩ ⟨rfl,rfl,rfl,rfl,rfl,rfl,rfl⟩ (by kernel_rfl) (by kernel_rfl) (by kernel_rfl) (by kernel_rfl) (by kernel_rfl) (by kernel_rfl) (by kernel_rfl) (jB L9 Pk Gv rfl rfl rfl rfl rfl rfl (by kernel_rfl) (by kernel_rfl))))) (c 0 24 o rfl rfl) B
 clear d b;refine(gE E f W F (Qid s ⟨by simp[Rows.stripsWritesRow],by kernel_rfl⟩)).mono fun e M ⟨G,I⟩=>?_;subst G;exact⟨_,rfl,pR Yof tY rfl Pk rfl i rfl I⟩
theorem tD:(Rows.stripsWritesRow.inPlace==prog.inPlace 5)=true:=by kernel_rfl
theorem dE:(Rows.stripsWritesRow.unfollowed==prog.unfollowed 5)=true:=by kernel_rfl
theorem rH:(Rows.stripsWritesRow.recurses==prog.recurses 5)=true:=by kernel_rfl
theorem vK:(Rows.stripsWritesRow.named==prog.varsNamed 5)=true:=by kernel_rfl
theorem eY:joinedFacts prog 5 Tryz.f5 Rows.stripsWritesSpec Rows.stripsWritesRow=true:=by
 unfold joinedFacts;rw[tD,dE,rH,vK]
 kernel_rfl
theorem pZ:Rows.stripsWritesRow.holds Tryz.pinned (OpenSpec.ofChange Rows.stripsWritesSpec):=
 OpenClaim.holds_of_wide 5 Tryz.f5 rfl rfl rfl rfl rfl rfl rfl ⟨rfl,rfl,rfl,rfl,rfl⟩ rfl rfl rfl rfl rfl (by kernel_rfl) func5 eY
  (Fq (by kernel_rfl)) (by unfold Func.isWrapper;first|(rw[Bc (by decide +kernel)];kernel_rfl)|(rw[Bb (by decide +kernel)];exact⟨rfl,rfl⟩))
  (fun os a H enc _=>lB os a H enc)
end Go.Proofs.YtjjmalchelniiaaGreatDoor