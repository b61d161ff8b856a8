/- No condition. -/
import Derived.Test.YtjjmalchelniiaaGreatDoorZpf
import Derived.Test.YtjjmalchelniiaaGreatDoorZpw
import Derived.Test.YtjjmalchelniiaaGreatDoorZpby
import Derived.Test.YtjjmalchelniiaaGreatDoorCards
import Derived.Test.YtjjmalchelniiaaGreatDoorTie
import Derived.Lay
open Go.Proofs.Tryz
namespace Go.Proofs.YtjjmalchelniiaaGreatDoor
open Go.RowKit Go.Lib Go.ChangeShapes Go.WideShapes Go.ChangeAt
theorem Yqm:ownKnob prog.godebug=none:=tN
theorem qM:laidOutB prog=true:=tN
theorem nU:Tryz.f4.params.toList.all (fun t=>prog.readableRec t&&decide (t<prog.types.size))=true:=tN
set_option maxRecDepth 100000 in
theorem pZ (os:Os)(a:os.Started)(H:Type)(enc:TypeId×Value->H):
  ReturnsInHanded {} checked os 4 .any (fun w args=>(Rows.stripsParsesSpec.pre enc prog Tryz.f4 Rows.stripsParsesRow.domain false w args/\laidMetH prog Rows.stripsParsesRow.laid w)/\sizedMet enc prog Tryz.f4 (OpenSpec.ofChange Rows.stripsParsesSpec) false w args)
   (Rows.stripsParsesSpec.post enc prog Tryz.f4 false true false false):=by
 refine returnsInHanded_of_change_and (C:=checked) (X:=fun w _=>laidMetH prog Rows.stripsParsesRow.laid w) (fun _ _ _ r h=>h.of_heap r) Yqm a tN func4
  (ChangeSpec.witness_shaped (enc:=enc) (C:=checked) (os:=os) (X:=fun w _=>laidMetH prog Rows.stripsParsesRow.laid w) false (World.laidAll prog os Rows.stripsParsesRow.laid) #[.string ⟨#[]⟩] 8 (World.laidAll_os _ _ _)
   (World.shaped_of_ZipB tN tN) tN tN tN
   (by rw[J3 _ _ _ (by kernel_rfl)];exact laidMet_laidAll _ (by kernel_rfl) (by kernel_rfl))) ?_
 intro W base args ds I g b l _ d s _;have c:∀(j:Nat) t v,Tryz.f4.params[j]? =some t->args[j]? =some v->Value.okWide prog W .any base t v:=b;have i:=l;obtain⟨p,q,f,u,rfl,x,y⟩:=l;have m:DataW.TrodAll enc prog W 0 (fun _=>true) true Tryz.f4.params.toList args.toList ds p:=f;rw[params4] at m c;obtain⟨n,z,d0,A,J,K,k,rfl,rfl,B,D⟩:=trodAll_cons m;obtain⟨rfl,rfl,rfl⟩:=trodAll_nil D;obtain rfl:args=#[n]:=by cases args;simp_all
 obtain⟨rfl,rfl⟩:=trodVars_none u;obtain⟨o,rfl,rfl,rfl,w0⟩:=Go.ChangeMaps.open_string Du (c 0 9 n rfl rfl) B;have E:o.size<=140737488355328:=Ef (sized_string d (j:=0) rfl rfl) (Nat.le_of_lt reachBytes_lt);clear f b;refine(Ypk o W w0 E (Qkj s ⟨by simp[Rows.stripsParsesRow],tN⟩)).mono fun e L ⟨F,G⟩=>?_;subst F;exact⟨_,rfl,nJ qM nU rfl M0 rfl i rfl G⟩
theorem oO:(Rows.stripsParsesRow.inPlace==prog.inPlace 4)=true:=tN
theorem Yt1:(Rows.stripsParsesRow.unfollowed==prog.unfollowed 4)=true:=tN
theorem qF:(Rows.stripsParsesRow.recurses==prog.recurses 4)=true:=tN
theorem Yt3:(Rows.stripsParsesRow.named==prog.varsNamed 4)=true:=tN
theorem mV:joinedFacts prog 4 Tryz.f4 Rows.stripsParsesSpec Rows.stripsParsesRow=true:=by
 unfold joinedFacts;rw[oO,Yt1,qF,Yt3]
 kernel_rfl
theorem jP:Rows.stripsParsesRow.holds Tryz.pinned (OpenSpec.ofChange Rows.stripsParsesSpec):=
 OpenClaim.holds_of_wide 4 Tryz.f4 rfl rfl rfl rfl rfl rfl rfl ⟨rfl,rfl,rfl,rfl,rfl⟩ rfl rfl rfl rfl rfl tN func4 mV
  (Fm tN) (by unfold Func.isWrapper;first|(rw[Bb uB];kernel_rfl)|(rw[Ba uB];exact⟨rfl,rfl⟩))
  (fun os a H enc _=>pZ os a H enc)
end Go.Proofs.YtjjmalchelniiaaGreatDoor