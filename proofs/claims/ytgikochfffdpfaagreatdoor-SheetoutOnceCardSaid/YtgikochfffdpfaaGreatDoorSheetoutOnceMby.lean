/- Texts that SheetoutOnce's proof stands on, part 51 of 52. No condition of its own. -/
import Derived.Test.YtgikochfffdpfaaGreatDoorSheetoutOnceMz
import Derived.Test.YtgikochfffdpfaaGreatDoorSheetoutOnceMbx
namespace Go.Proofs.YtgikochfffdpfaaGreatDoor
open Go.RowKit
def Yxt (ct:CelT):Prop:=∀inter S x y p i,((ct inter S x y p).1.ev i).length≤65
theorem Qcs:Yxt ctk:=Y35
theorem Ys0 {ct:CelT} (hct:Yxt ct) {l:List UInt8} {inter:Bool} {k first:Int}:∀(n p:Nat) (vs:List (Int×Int)) (c:Cel) (i:Nat),c∈(Ydc ct l inter k first n p vs).1→(c.ev i).length≤65
 | 0,p,vs,c,i,h=> by rw [Ydc] at h;cases h
 | n+1,p,vs,c,i,h=> by
  rw [Ydc] at h
  have h0:=hct inter (Yad l) (Ydh vs (Ydf k) first).1 (Ydh vs (Ydf k) first).2 p i
  obtain ⟨⟨c1,z,f⟩,hc⟩:∃r,ct inter (Yad l) (Ydh vs (Ydf k) first).1 (Ydh vs (Ydf k) first).2 p=r:=⟨_,rfl⟩
  rw [hc] at h h0
  simp only at h h0
  split at h
  ·cases h
  ·split at h
   ·cases h
   ·obtain ⟨⟨cs',y,g⟩,hr⟩:∃r,Ydc ct l inter k first n z (vs ++ [(c1.mx,c1.my)])=r:=⟨_,rfl⟩
    rw [hr] at h
    simp only at h
    split at h
    ·cases h
    ·rcases List.mem_cons.1 h with rfl | h
     ·exact h0
     ·exact Ys0 hct n z _ c i (by rw [hr];exact h)
theorem Yy5 {ct:CelT} (hct:Yxt ct) {l:List UInt8} {inter:Bool} {k:Int}:∀(n j p:Nat) (vs:List (Int×Int)) (first:Int) (c:Cel) (i:Nat),c∈(Yiw ct l inter k n j p vs first).1.flatMap (·.cels)→(c.ev i).length≤65
 | 0,j,p,vs,first,c,i,h=> by rw [Yiw] at h;cases h
 | n+1,j,p,vs,first,c,i,h=> by
  rw [Yiw] at h
  obtain ⟨⟨hd,id,qu,z,fs,f⟩,hh⟩:∃r,Yjw l k j p first=r:=⟨_,rfl⟩
  rw [hh] at h
  simp only at h
  split at h
  ·cases h
  ·have h0:=Ys0 hct (l:=l) (inter:=inter) (k:=k) (first:=fs) (Ygn k).toNat z vs c i
   obtain ⟨⟨cs,y,g⟩,hc⟩:∃r,Ydc ct l inter k fs (Ygn k).toNat z vs=r:=⟨_,rfl⟩
   rw [hc] at h h0
   simp only at h h0
   split at h
   ·cases h
   ·obtain ⟨⟨rs',q',e⟩,hr⟩:∃r,Yiw ct l inter k n (j+1) y (vs++Ydv cs) fs=r:=⟨_,rfl⟩
    rw [hr] at h
    simp only at h
    split at h
    ·cases h
    ·simp only [List.flatMap_cons,List.mem_append] at h
     rcases h with h | h
     ·exact h0 h
     ·exact Yy5 hct n (j+1) y _ fs c i (by rw [hr];exact h)
theorem Qd1 {ct:CelT} (hct:Yxt ct) {l:List UInt8} {p:Nat}:∀c∈Yf4 (wtk ct l p).1,∀i,(c.ev i).length≤65:=by
 intro c h i
 unfold wtk at h
 obtain ⟨⟨hd,q,f⟩,hk⟩:∃r,shk l p=r:=⟨_,rfl⟩
 rw [hk] at h
 simp only at h
 split at h
 ·cases h
 ·have h0:=Yy5 hct (l:=l) (inter:=hd.inter) (k:=hd.fmt) (Yib hd.fmt).toNat 0 q [] 0 c i
  obtain ⟨⟨rs,z,g⟩,hr⟩:∃r,Yiw ct l hd.inter hd.fmt (Yib hd.fmt).toNat 0 q [] 0=r:=⟨_,rfl⟩
  rw [hr] at h h0
  simp only at h h0
  split at h
  ·cases h
  ·split at h
   ·cases h
   ·exact h0 h
theorem Y7g {ct:CelT} {l:List UInt8} {p q:Nat} {S:ShP} (hct:Yi4 ct (Yad l)) (h:wtk ct l p=(S,q,0)):S.zeros≤l.length:=by
 obtain ⟨-,-,-,-,h0,hs⟩:=Yzs hct h
 have h1:=hs.len
 have h2:=hs.2.1
 rw [Yai] at h2
 unfold Ydb at h1
 simp only [List.length_append,List.length_replicate] at h1
 omega
end Go.Proofs.YtgikochfffdpfaaGreatDoor