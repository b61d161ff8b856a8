/- StripsChecks, 52. No condition. -/
import Derived.Test.YtjjmalchelniiaaGreatDoorStripsChecksMf
import Derived.Test.YtjjmalchelniiaaGreatDoorStripsChecksMx
import Derived.Test.YtjjmalchelniiaaGreatDoorStripsChecksMby
import Derived.Test.YtjjmalchelniiaaGreatDoorCards
import Derived.Test.YtjjmalchelniiaaGreatDoorTie
import Derived.Lay
open Go.Proofs.Tryz
namespace Go.Proofs.YtjjmalchelniiaaGreatDoor
open Go.RowKit Go.Lib Go.ChangeShapes Go.WideShapes Go.ChangeAt
abbrev Ox:=@underlying4
theorem iV:ownKnob prog.godebug=none:=by kernel_rfl
theorem Z1:laidOutB prog=true:=by kernel_rfl
theorem gS:Tryz.f3.params.toList.all (fun t=>prog.readableRec t&&decide (t<prog.types.size))=true:=by kernel_rfl
set_option maxRecDepth 100000 in
theorem yL (os:Os)(a:os.Started)(H:Type)(enc:TypeId×Value->H):
  ReturnsInHanded {} checked os 3 .any (fun w args=>(Rows.stripsChecksSpec.pre enc prog Tryz.f3 Rows.stripsChecksRow.domain false w args/\laidMetH prog Rows.stripsChecksRow.laid w)/\sizedMet enc prog Tryz.f3 (OpenSpec.ofChange Rows.stripsChecksSpec) false w args)
   (Rows.stripsChecksSpec.post enc prog Tryz.f3 false true false false):=by
 refine returnsInHanded_of_change_and (C:=checked) (X:=fun w _=>laidMetH prog Rows.stripsChecksRow.laid w) (fun _ _ _ u h=>h.of_heap u) iV a (by kernel_rfl) func3
  (ChangeSpec.witness_shaped (enc:=enc) (C:=checked) (os:=os) (X:=fun w _=>laidMetH prog Rows.stripsChecksRow.laid w) false (World.laidAll prog os Rows.stripsChecksRow.laid) #[.agg #[.slice none 0 0,.bool false],.agg #[.slice none 0 0,.bool false]] 8 (World.laidAll_os _ _ _)
   (World.shaped_of_ZipB (by kernel_rfl) (by kernel_rfl)) (by kernel_rfl) (by kernel_rfl) (by kernel_rfl)
   (by rw[Jh _ _ _ (by kernel_rfl)];exact laidMet_laidAll _ (by kernel_rfl) (by kernel_rfl))) ?_
 intro W base args ds P i b m _ n x _;have c:∀(j:Nat) t v,Tryz.f3.params[j]? =some t->args[j]? =some v->Value.okWide prog W .any base t v:=b;have k:=m;obtain⟨p,q,d,y,rfl,z,A⟩:=m;have o:DataW.TrodAll enc prog W 0 (fun _=>true) true Tryz.f3.params.toList args.toList ds p:=d;rw[params3] at o c
 obtain⟨r,B,d0,D,Q,R,l,rfl,rfl,E,F⟩:=trodAll_cons o;obtain⟨s,G,d1,I,S,T,rfl,rfl,rfl,h1,r1⟩:=trodAll_cons F;obtain⟨rfl,rfl,rfl⟩:=trodAll_nil r1;obtain rfl:args=#[r,s]:=by cases args;simp_all
 obtain⟨rfl,rfl⟩:=trodVars_none y
 obtain⟨J,f,rfl,K⟩:=Xz Ou Ox Ow ⟨rfl,rfl⟩ ⟨rfl,rfl⟩ (by kernel_rfl) (by kernel_rfl) (by kernel_rfl) (by kernel_rfl) (Zq Nv H5 Ox underlying36 O5 ⟨rfl,rfl,rfl,rfl,rfl,rfl,rfl,rfl⟩ ⟨rfl,rfl,rfl,rfl,rfl,rfl,rfl,rfl⟩ (by kernel_rfl) (by kernel_rfl) (by kernel_rfl) (by kernel_rfl) (by kernel_rfl) (U3 J3 Ox H5 Ny ⟨rfl,rfl,rfl,rfl⟩ ⟨rfl,rfl,rfl,rfl⟩ (by kernel_rfl) (by kernel_rfl) (by kernel_rfl) (by kernel_rfl) (YY J2 Ox H5 Gx underlying74 underlying75 L7 ⟨rfl,rfl,rfl,rfl,rfl,rfl,rfl⟩ ⟨rfl,rfl,rfl,rfl,rfl,rfl,rfl⟩ (by kernel_rfl) (by kernel_rfl) (by kernel_rfl) (by kernel_rfl) (by kernel_rfl) (by kernel_rfl) (by kernel_rfl) (XR L3 Ox H5 rfl rfl rfl rfl rfl rfl (by kernel_rfl) (by kernel_rfl))))) (c 0 24 r rfl rfl) E
 obtain⟨L,g,rfl,M⟩:=Xz Ou Ox Ow ⟨rfl,rfl⟩ ⟨rfl,rfl⟩ (by kernel_rfl) (by kernel_rfl) (by kernel_rfl) (by kernel_rfl) (Zq Nv H5 Ox underlying36 O5 ⟨rfl,rfl,rfl,rfl,rfl,rfl,rfl,rfl⟩ ⟨rfl,rfl,rfl,rfl,rfl,rfl,rfl,rfl⟩ (by kernel_rfl) (by kernel_rfl) (by kernel_rfl) (by kernel_rfl) (by kernel_rfl) (U3 J3 Ox H5 Ny ⟨rfl,rfl,rfl,rfl⟩ ⟨rfl,rfl,rfl,rfl⟩ (by kernel_rfl) (by kernel_rfl) (by kernel_rfl) (by kernel_rfl) (YY J2 Ox H5 Gx underlying74 underlying75 L7 ⟨rfl,rfl,rfl,rfl,rfl,rfl,rfl⟩ ⟨rfl,rfl,rfl,rfl,rfl,rfl,rfl⟩ (by kernel_rfl) (by kernel_rfl) (by kernel_rfl) (by kernel_rfl) (by kernel_rfl) (by kernel_rfl) (by kernel_rfl) (XR L3 Ox H5 rfl rfl rfl rfl rfl rfl (by kernel_rfl) (by kernel_rfl))))) (c 1 24 s rfl rfl) h1
 clear d b;refine(aY J f L g W K M (ZU x ⟨by simp[Rows.stripsChecksRow],by kernel_rfl⟩)).mono fun e U ⟨N,O⟩=>?_;subst N;exact⟨_,rfl,pF Z1 gS rfl Ox rfl k rfl O⟩
theorem jO:(Rows.stripsChecksRow.inPlace==prog.inPlace 3)=true:=by kernel_rfl
theorem pS:(Rows.stripsChecksRow.unfollowed==prog.unfollowed 3)=true:=by kernel_rfl
theorem jB:(Rows.stripsChecksRow.recurses==prog.recurses 3)=true:=by kernel_rfl
theorem bE:(Rows.stripsChecksRow.named==prog.varsNamed 3)=true:=by kernel_rfl
theorem ZJ:joinedFacts prog 3 Tryz.f3 Rows.stripsChecksSpec Rows.stripsChecksRow=true:=by
 unfold joinedFacts;rw[jO,pS,jB,bE]
 kernel_rfl
theorem iF:Rows.stripsChecksRow.holds Tryz.pinned (OpenSpec.ofChange Rows.stripsChecksSpec):=
 OpenClaim.holds_of_wide 3 Tryz.f3 rfl rfl rfl rfl rfl rfl rfl ⟨rfl,rfl,rfl,rfl,rfl⟩ rfl rfl rfl rfl rfl (by kernel_rfl) func3 ZJ
  (Fj (by kernel_rfl)) (by unfold Func.isWrapper;first|(rw[Bc (by decide +kernel)];kernel_rfl)|(rw[Bb (by decide +kernel)];exact⟨rfl,rfl⟩))
  (fun os a H enc _=>yL os a H enc)
end Go.Proofs.YtjjmalchelniiaaGreatDoor