/- No condition. -/
import Derived.Test.YtnamlooifcpoaaaGreatDoorScreensStillMb
import Derived.Test.YtnamlooifcpoaaaGreatDoorScreensStillMi
import Derived.Test.YtnamlooifcpoaaaGreatDoorRows
import Derived.WalkKit
import Derived.WalkSpells
import Derived.ProofKit
import Derived.Lib.Hide
import Derived.LoopTactic
import Derived.Laws.Concat
import Derived.Outline
import Derived.Below
namespace Go.Proofs.YtnamlooifcpoaaaGreatDoor
open Go.RowKit
def Yce (v n:Int):Bool:=decide (0≤n∧n≤32∧0≤v∧v<2^n.toNat)
theorem Yvf (p:UInt8→Bool)(l:List UInt8)(j:Nat)(h:j<l.length):(l.take (j+1)).all p=((l.take j).all p&&p l[j]):=by
 rw[List.take_succ_eq_append_getElem h,List.all_append];simp
theorem Ywm {w:World}{base e:Nat}{v:Value}{l:List UInt8}(h:Ya6 w base e v l):∀k,v.ownBlock=some k→base≤k:=by
 intro k hk;rcases h.2 with ⟨rfl,_⟩|⟨g,cap,cur,rfl,hg,_⟩
 ·cases hk
 ·cases hk;exact hg
theorem Yyw:(Tryz.prog.info? 5).map (fun i=>(i.zero,i.size,i.bytes))=some (some (.int .u8 0),1,1):=by kernel_rfl
theorem Yzl (x:Int):bits .and .i64 x 1=x%2:=Ye2 x 1 (by omega)
theorem Ypw (y:Nat):(((Yhf y).toNat:Nat):Int)=48+(y:Int)%2:=by
 have h:y%2=0∨y%2=1:=by omega
 unfold Yhf;rcases h with h|h
 ·rw[if_pos h];have:((48:UInt8).toNat:Int)=48:=rfl;omega
 ·rw[if_neg (by omega)];have:((49:UInt8).toNat:Int)=49:=rfl;omega
theorem Ypx (v k:Nat):(48+bits .and .i64 ((v:Int) / 2^k) 1)%256=(((Yhf (v / 2^k)).toNat:Nat):Int):=by
 rw[Yzl,Ypw];have e:(((v / 2^k:Nat)):Int)=(v:Int) / 2^k:=by simp
 rw[e];omega
theorem Yjh (v:Nat):∀(n j:Nat),j<n→(Yav v n).take (j+1)=(Yav v n).take j++[Yhf (v / 2^(n-1-j))]
 |0,j,h=>by omega
 |n+1,0,_=>by simp[Yav]
 |n+1,j+1,h=>by
  have ih:=Yjh v n j (by omega);rw[Yav,List.take_succ_cons,List.take_succ_cons,ih,show n+1-1-(j+1)=n-1-j by omega]
  rfl
set_option maxRecDepth 100000 in
set_option maxHeartbeats 1000000 in
theorem Yni (v n:Int)(sv:Value)(l:List UInt8)(B:Nat)(w:World)(h1:0≤v)(h2:v≤9223372036854775807)(h3:0≤n)(h4:n≤32)
  (hown:Ya6 w B 5 sv l)(hl:l.length≤1073741824)(hB:B≤w.heap.size):
  Calls Tryz.prog 155 #[sv,.int .i64 v,.int .i64 n] w fun e w'=>∃sv',e=.returned sv'∧Ya6 w' B 5 sv' (l++Yav v.toNat n.toNat)∧Below B w w':=by
 obtain⟨i0,hi,hz0,hz1,hz2⟩:=info_parts Yyw;obtain⟨v,rfl⟩:=Int.eq_ofNat_of_zero_le h1;obtain⟨n,rfl⟩:=Int.eq_ofNat_of_zero_le h3;simp only[Int.toNat_natCast];clear h1 h3
 go_enter Tryz.func155,Tryz.ntmps155
 go_wp2
 go_loopw [0,7] (fun s p wr=>∃j:Nat,j≤n∧p=.int .i64 ((n:Int)-1-j)∧Ya6 wr B 5 s (l++(Yav v n).take j)∧Below B w wr) (fun _ p _=>(intOf p+1).toNat)
 case atStart=>exact⟨0,Nat.zero_le _,by simp,by simpa using hown,Below.refl _ _⟩
 case round=>
  obtain⟨j,hj,rfl,hown1,hb⟩:=hrel;have hsz:=hb.size;by_cases hlt:j<n
  ·have hp:0≤(n:Int)-1-j:=by omega
   have hln:(l++(Yav v n).take j).length≤1073741824+32:=by rw[List.length_append,List.length_take,Yap];omega
   have hst:=Yjh v n j hlt;have T:=Lib.hid hst;clear hst
   go_wp2_with (at_builtin;refine Yim (b:=Yhf (v / 2^(n-1-j))) rfl rfl Tryz.underlying22 hi hz0 hz1 hz2 rfl (hown1.alloc _) rfl ?c1 ?c2 ?c3 ?_;(case c1=>(rw[Ypx];go_cell));(case c2=>omega);(case c3=>(simp;omega));intro v1 w1 hown2 hgrow)
   rw[List.append_assoc,←T.out] at hown2
   go_roundw
   case rel=>exact⟨j+1,by omega,by go_num,hown2,(hb.alloc (by omega) _).grown hgrow (by simp;omega) (Ywm hown1)⟩
   case measure=>simp[intOf];omega
  ·obtain rfl:j=n:=by omega
   have hp:¬ 0≤(j:Int)-1-j:=by omega
   go_wp2
   go_ret
   exact⟨_,rfl,by rwa [List.take_of_length_le (by rw[Yap];exact Nat.le_refl _)] at hown1,hb⟩
theorem Yi2 {v n:Int}(h:Yce v n=true):0≤n∧n≤32∧0≤v∧v<2^n.toNat:=by
 unfold Yce at h
 simpa using h
theorem Ytm (v n:Int)(h0:0≤v)(h1:v<2^n.toNat):v / 2^n.toNat=0:=Int.ediv_eq_zero_of_lt h0 h1
set_option maxHeartbeats 1000000 in
theorem Yg2 (v n:Int)(w:World)(h2:v≤9223372036854775807)(hf:Yce v n=true):
  Calls Tryz.prog 142 #[.int .i64 v,.int .i64 n] w fun e w'=>e=.returned (.tuple #[.string ⟨(Yav v.toNat n.toNat).toArray⟩,.int .i64 0])∧Below w.heap.size w w':=by
 obtain⟨n0,n1,v0,v1⟩:=Yi2 hf;have hz:=Ytm v n v0 v1;have t1:(v / 2^n.toNat != 0)=false:=by rw[hz];rfl
 have t2:decide (n<0)=false:=by simpa using n0
 have t3:decide (32<n)=false:=by simpa using n1
 have t4:decide (v<0)=false:=by simpa using v0
 clear hz hf v1
 go_enter Tryz.func142,Tryz.ntmps142
 go_wp2_with fail
 refine(Yni _ _ _ [] w.heap.size _ v0 h2 n0 n1 (Ya6.nil _ _ _) (by simp) (by simp)).mono ?_;rintro e w1 ⟨sv,rfl,hown,hb⟩;rw[List.nil_append] at hown;have ht:=Ya6.text Tryz.underlying22 Tryz.underlying5 Tryz.underlying9 hown
 go_wp2
 go_ret2
 exact⟨rfl,hb⟩
end Go.Proofs.YtnamlooifcpoaaaGreatDoor