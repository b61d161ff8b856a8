/- Texts that SheetoutOnce's proof stands on, part 33 of 52. No condition of its own. -/
import Derived.Test.YtgikochfffdpfaaGreatDoorSheetoutOnceMz
import Derived.Test.YtgikochfffdpfaaGreatDoorSheetoutOnceMbf
namespace Go.Proofs.YtgikochfffdpfaaGreatDoor
open Go.RowKit
theorem Yk2 {inter:Bool} {k first:Int}:∀(cs:List Cel) (vs:List (Int×Int)),cs.all (Ybv inter)=true→(Yec inter k first vs cs).length≤20000*cs.length
 | [],_,_=> Nat.le_refl _
 | c::cs,vs,h=> by
  rw [List.all_cons,Bool.and_eq_true] at h
  rw [Yec,List.length_append,List.length_cons]
  have h1:=Y5a h.1 (Ydh vs (Ydf k) first).1 (Ydh vs (Ydf k) first).2
  have h2:=Yk2 (k:=k) (first:=first) cs (vs ++ [(c.mx,c.my)]) h.2
  omega
theorem Y1p (i p:Nat) (r:RowP):(Yhf i p r).length≤36:=by
 unfold Yhf
 cases r.head with
 | true=>
  rw [if_pos rfl,Yn8]
  unfold gap
  omega
 | false=> exact Nat.zero_le _
theorem Yla {inter:Bool} {k:Int} {N M:Nat} (hM:36+20000*N≤M):∀(rs:List RowP) (i p:Nat) (vs:List (Int×Int)) (first:Int),Yc0 (Yd5 inter (N:Int)) i rs=true→(Ycy inter k i p vs first rs).length≤M*rs.length
 | [],_,_,_,_,_=> Nat.zero_le _
 | r::rs,i,p,vs,first,h=> by
  rw [Yc0,Bool.and_eq_true] at h
  have hr:=h.1
  unfold Yd5 at hr
  rw [Bool.and_eq_true,decide_eq_true_iff,Bool.and_eq_true] at hr
  obtain ⟨hc,-,ha⟩:=hr
  rw [Ycy]
  have h1:=Y1p i p r
  have h2:=Yk2 (k:=k) (first:=Ysg k i first r) r.cels vs ha
  have h3:=Yla (k:=k) hM rs (i+1) (p+(Yhf i p r).length+(Yec inter k (Ysg k i first r) vs r.cels).length) (vs++Ydv r.cels) (Ysg k i first r) h.2
  rw [List.length_append,List.length_append,List.length_cons,Nat.mul_succ]
  have hN:r.cels.length=N:=by omega
  rw [hN] at h2
  omega
theorem Yl0 {S:ShP} (h:Ydm S=0):Yd7 S.hd=true∧(0≤S.zeros∧S.zeros≤262144)∧((S.rows.length:Int)=Yib S.hd.fmt∧S.rows.length≤18)∧∃N:Nat,Ygn S.hd.fmt=(N:Int)∧(0<N∧N≤352)∧Yc0 (Yd5 S.hd.inter (N:Int)) 0 S.rows=true:=by
 obtain ⟨h1,-⟩:=Y1y h
 unfold Yey at h1
 simp only [Bool.and_eq_true,decide_eq_true_iff] at h1
 obtain ⟨hm,hz,hn,hr⟩:=h1
 have hfm:=(Yem.1 hm).2.1
 have hk:0<Ygn S.hd.fmt∧Ygn S.hd.fmt≤352∧Yib S.hd.fmt≤18:=by
  have h6:S.hd.fmt=1∨S.hd.fmt=2∨S.hd.fmt=3∨S.hd.fmt=4∨S.hd.fmt=5∨S.hd.fmt=6:=by omega
  rcases h6 with h6 | h6 | h6 | h6 | h6 | h6 <;> rw [h6] <;> decide +kernel
 refine ⟨hm,hz,⟨hn,by omega⟩,(Ygn S.hd.fmt).toNat,by omega,by omega,?_⟩
 rw [Int.toNat_of_nonneg (by omega)]
 exact hr
theorem Yui {S:ShP} (h:Ydm S=0) (r:List UInt8):(Yyx r S).length≤r.length+130000000:=by
 obtain ⟨hm,-,⟨-,h18⟩,N,-,hN,hr⟩:=Yl0 h
 have h8:=(Yem.1 hm).2.2.1
 have h1:=Yla (k:=S.hd.fmt) (N:=N) (M:=7040036) (by omega) S.rows 0 (Y1e r S).length [] 0 hr
 have h2:7040036*S.rows.length≤7040036*18:=Nat.mul_le_mul_left _ h18
 unfold Yyx Yiv
 generalize Ycy S.hd.inter S.hd.fmt 0 (Y1e r S).length [] 0 S.rows=RR at *
 rw [List.length_append,Yf7,List.length_append,Yck,Ygc]
 unfold gap
 omega
theorem Yuh {S:ShP} (h:Ydm S=0) (r:List UInt8):(Y7l r S).length≤r.length+134217728:=by
 obtain ⟨-,hz,-,-⟩:=Yl0 h
 have h1:=Yui h r
 rw [Ypa]
 simp only [List.length_append,List.length_replicate]
 unfold gap
 omega
end Go.Proofs.YtgikochfffdpfaaGreatDoor