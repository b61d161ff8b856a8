/- Texts that SheetinMay's proof stands on, part 48 of 52. No condition of its own. -/
import Derived.Test.YtpgdngijmihafaaGreatDoorSheetinMayMba
import Derived.Test.YtpgdngijmihafaaGreatDoorSheetinMayMbt
namespace Go.Proofs.YtpgdngijmihafaaGreatDoor
open Go.RowKit
def Yu1 (ct:CelT):Prop:=∀inter S x y p i,((ct inter S x y p).1.ev i).length≤65
theorem Y8v:Yu1 ctk:=Y0v
theorem Yqo {ct:CelT} (hct:Yu1 ct) {l:List UInt8} {inter:Bool} {k first:Int}:∀(n p:Nat) (vs:List (Int×Int)) (c:Cel) (i:Nat),c∈(Ycs ct l inter k first n p vs).1→(c.ev i).length≤65
 | 0,p,vs,c,i,h=> by rw [Ycs] at h;cases h
 | n+1,p,vs,c,i,h=> by
  rw [Ycs] at h
  have h0:=hct inter (Yac l) (Yd7 vs (Yd0 k) first).1 (Yd7 vs (Yd0 k) first).2 p i
  obtain ⟨⟨c1,z,f⟩,hc⟩:∃r,ct inter (Yac l) (Yd7 vs (Yd0 k) first).1 (Yd7 vs (Yd0 k) first).2 p=r:=⟨_,rfl⟩
  rw [hc] at h h0
  simp only at h h0
  split at h
  ·cases h
  ·split at h
   ·cases h
   ·obtain ⟨⟨cs',y,g⟩,hr⟩:∃r,Ycs ct l inter k first n z (vs ++ [(c1.mx,c1.my)])=r:=⟨_,rfl⟩
    rw [hr] at h
    simp only at h
    split at h
    ·cases h
    ·rcases List.mem_cons.1 h with rfl | h
     ·exact h0
     ·exact Yqo hct n z _ c i (by rw [hr];exact h)
theorem Ywc {ct:CelT} (hct:Yu1 ct) {l:List UInt8} {inter:Bool} {k:Int}:∀(n j p:Nat) (vs:List (Int×Int)) (first:Int) (c:Cel) (i:Nat),c∈(Yhd ct l inter k n j p vs first).1.flatMap (·.cels)→(c.ev i).length≤65
 | 0,j,p,vs,first,c,i,h=> by rw [Yhd] at h;cases h
 | n+1,j,p,vs,first,c,i,h=> by
  rw [Yhd] at h
  obtain ⟨⟨hd,id,qu,z,fs,f⟩,hh⟩:∃r,Yh7 l k j p first=r:=⟨_,rfl⟩
  rw [hh] at h
  simp only at h
  split at h
  ·cases h
  ·have h0:=Yqo hct (l:=l) (inter:=inter) (k:=k) (first:=fs) (Ygn k).toNat z vs c i
   obtain ⟨⟨cs,y,g⟩,hc⟩:∃r,Ycs ct l inter k fs (Ygn k).toNat z vs=r:=⟨_,rfl⟩
   rw [hc] at h h0
   simp only at h h0
   split at h
   ·cases h
   ·obtain ⟨⟨rs',q',e⟩,hr⟩:∃r,Yhd ct l inter k n (j+1) y (vs++Yge cs) fs=r:=⟨_,rfl⟩
    rw [hr] at h
    simp only at h
    split at h
    ·cases h
    ·simp only [List.flatMap_cons,List.mem_append] at h
     rcases h with h | h
     ·exact h0 h
     ·exact Ywc hct n (j+1) y _ fs c i (by rw [hr];exact h)
theorem Y96 {ct:CelT} (hct:Yu1 ct) {l:List UInt8} {p:Nat}:∀c∈Yg3 (wtk ct l p).1,∀i,(c.ev i).length≤65:=by
 intro c h i
 unfold wtk at h
 obtain ⟨⟨hd,q,f⟩,hk⟩:∃r,shk l p=r:=⟨_,rfl⟩
 rw [hk] at h
 simp only at h
 split at h
 ·cases h
 ·have h0:=Ywc hct (l:=l) (inter:=hd.inter) (k:=hd.fmt) (Yhg hd.fmt).toNat 0 q [] 0 c i
  obtain ⟨⟨rs,z,g⟩,hr⟩:∃r,Yhd ct l hd.inter hd.fmt (Yhg hd.fmt).toNat 0 q [] 0=r:=⟨_,rfl⟩
  rw [hr] at h h0
  simp only at h h0
  split at h
  ·cases h
  ·split at h
   ·cases h
   ·exact h0 h
theorem Y3s {ct:CelT} {l:List UInt8} {p q:Nat} {S:ShP} (hct:Yhl ct (Yac l)) (h:wtk ct l p=(S,q,0)):S.zeros≤l.length:=by
 obtain ⟨-,-,-,-,h0,hs⟩:=Ywx hct h
 have h1:=hs.len
 have h2:=hs.2.1
 rw [Yah] at h2
 unfold Ypw at h1
 simp only [List.length_append,List.length_replicate] at h1
 omega
end Go.Proofs.YtpgdngijmihafaaGreatDoor