/- Texts that SheetoutPuts's proof stands on, part 42 of 47. No condition of its own. -/
import Derived.Test.YtgikochfffdpfaaGreatDoorSheetoutPutsMbe
import Derived.Test.YtgikochfffdpfaaGreatDoorSheetoutPutsMbo
namespace Go.Proofs.YtgikochfffdpfaaGreatDoor
open Go.RowKit
theorem Yh1 {inter:Bool} {k first:Int}:∀(cs:List Cel) (vs:List (Int×Int)),cs.all (Ya7 inter)=true→(Yd5 inter k first vs cs).length≤20000*cs.length
 | [],_,_=> Nat.le_refl _
 | c::cs,vs,h=> by
  rw [List.all_cons,Bool.and_eq_true] at h
  rw [Yd5,List.length_append,List.length_cons]
  have h1:=Yl5 h.1 (Yj6 vs (Yex k) first).1 (Yj6 vs (Yex k) first).2
  have h2:=Yh1 (k:=k) (first:=first) cs (vs ++ [(c.mx,c.my)]) h.2
  omega
theorem Yr6 (i p:Nat) (r:RowP):(Ygm i p r).length≤36:=by
 unfold Ygm
 cases r.head with
 | true=>
  rw [if_pos rfl,Yf5]
  unfold gap
  omega
 | false=> exact Nat.zero_le _
theorem Yh5 {inter:Bool} {k:Int} {N M:Nat} (hM:36+20000*N≤M):∀(rs:List RowP) (i p:Nat) (vs:List (Int×Int)) (first:Int),Yb9 (Yb4 inter (N:Int)) i rs=true→(Yep inter k i p vs first rs).length≤M*rs.length
 | [],_,_,_,_,_=> Nat.zero_le _
 | r::rs,i,p,vs,first,h=> by
  rw [Yb9,Bool.and_eq_true] at h
  have hr:=h.1
  unfold Yb4 at hr
  rw [Bool.and_eq_true,decide_eq_true_iff,Bool.and_eq_true] at hr
  obtain ⟨hc,-,ha⟩:=hr
  rw [Yep]
  have h1:=Yr6 i p r
  have h2:=Yh1 (k:=k) (first:=Ylz k i first r) r.cels vs ha
  have h3:=Yh5 (k:=k) hM rs (i+1) (p+(Ygm i p r).length+(Yd5 inter k (Ylz k i first r) vs r.cels).length) (vs++Ye0 r.cels) (Ylz k i first r) h.2
  rw [List.length_append,List.length_append,List.length_cons,Nat.mul_succ]
  have hN:r.cels.length=N:=by omega
  rw [hN] at h2
  omega
theorem Yil {S:ShP} (h:Ybv S=0):Yb7 S.hd=true∧(0≤S.zeros∧S.zeros≤262144)∧((S.rows.length:Int)=Yf3 S.hd.fmt∧S.rows.length≤18)∧∃N:Nat,Yfp S.hd.fmt=(N:Int)∧(0<N∧N≤352)∧Yb9 (Yb4 S.hd.inter (N:Int)) 0 S.rows=true:=by
 obtain ⟨h1,-⟩:=Ysh h
 unfold Yck at h1
 simp only [Bool.and_eq_true,decide_eq_true_iff] at h1
 obtain ⟨hm,hz,hn,hr⟩:=h1
 have hfm:=(Ycy.1 hm).2.1
 have hk:0<Yfp S.hd.fmt∧Yfp S.hd.fmt≤352∧Yf3 S.hd.fmt≤18:=by
  have h6:S.hd.fmt=1∨S.hd.fmt=2∨S.hd.fmt=3∨S.hd.fmt=4∨S.hd.fmt=5∨S.hd.fmt=6:=by omega
  rcases h6 with h6 | h6 | h6 | h6 | h6 | h6 <;> rw [h6] <;> decide +kernel
 refine ⟨hm,hz,⟨hn,by omega⟩,(Yfp S.hd.fmt).toNat,by omega,by omega,?_⟩
 rw [Int.toNat_of_nonneg (by omega)]
 exact hr
theorem Yjf {S:ShP} (h:Ybv S=0) (r:List UInt8):(Yne r S).length≤r.length+130000000:=by
 obtain ⟨hm,-,⟨-,h18⟩,N,-,hN,hr⟩:=Yil h
 have h8:=(Ycy.1 hm).2.2.1
 have h1:=Yh5 (k:=S.hd.fmt) (N:=N) (M:=7040036) (by omega) S.rows 0 (Yo5 r S).length [] 0 hr
 have h2:7040036*S.rows.length≤7040036*18:=Nat.mul_le_mul_left _ h18
 unfold Yne Yhv
 generalize Yep S.hd.inter S.hd.fmt 0 (Yo5 r S).length [] 0 S.rows=RR at *
 rw [List.length_append,Yen,List.length_append,Ya9,Yer]
 unfold gap
 omega
theorem Yhc {S:ShP} (h:Ybv S=0) (r:List UInt8):(Yje r S).length≤r.length+134217728:=by
 obtain ⟨-,hz,-,-⟩:=Yil h
 have h1:=Yjf h r
 rw [Yfo]
 simp only [List.length_append,List.length_replicate]
 unfold gap
 omega
theorem Yit {inter:Bool} {k first:Int}:∀(cs:List Cel) (vs:List (Int×Int)),Yat (Yd5 inter k first vs cs)=true
 | [],_=> rfl
 | c::cs,vs=> by rw [Yd5,Yam,Yq8,Yit cs];rfl
theorem Yjr {inter:Bool} {k:Int}:∀(rs:List RowP) (i p:Nat) (vs:List (Int×Int)) (first:Int),Yat (Yep inter k i p vs first rs)=true
 | [],_,_,_,_=> rfl
 | r::rs,i,p,vs,first=> by
  rw [Yep,Yam,Yam,Yit,Yjr rs]
  unfold Ygm
  cases r.head with
  | true=> rw [if_pos rfl,Yov];rfl
  | false=> rfl
theorem Yod (p:Nat) (S:ShP):Yat (Ybo p S)=true:=by
 unfold Ybo Yhv Ye5
 rw [Yam,Yam,Yam,Yam,Yi9,Ysj,Yjr,Yb8,Yb8];rfl
theorem Ywq {r:List UInt8} (hr:Yat r=true) (S:ShP):Yat (Yje r S)=true:=by
 unfold Yje Ye5
 rw [Yam,Yam,hr,Yb8,Yod];rfl
end Go.Proofs.YtgikochfffdpfaaGreatDoor