/- Texts that SheetoutBack's proof stands on, part 49 of 52. No condition of its own. -/
import Derived.Test.YtgikochfffdpfaaGreatDoorSheetoutBackMz
import Derived.Test.YtgikochfffdpfaaGreatDoorSheetoutBackMbk
import Derived.Test.YtgikochfffdpfaaGreatDoorSheetoutBackMbu
import Derived.Test.YtgikochfffdpfaaGreatDoorSheetoutBackMbv
namespace Go.Proofs.YtgikochfffdpfaaGreatDoor
open Go.RowKit
theorem Yzv (l:List UInt8):Yju ctk (Yac l):=fun _ _ _ _ _ _ h hm=> Y6h h hm
theorem Y3e {l:List UInt8} {q t:Nat} {S:ShP} {p:Nat} (h:Seg (Yac l) q t (Yb1 p S)):(Ybi l q).2=0:=by
 unfold Yb1 at h
 rw [List.append_assoc] at h
 obtain ⟨m,h1,-⟩:=h.cut
 obtain ⟨e,-,hl⟩:=Yb0 (n:=22) (v:=32) h1 (by decide)
 rw [Ygx hl,e]
 rfl
theorem Y78 {r:List UInt8} {a b:ShP} (hr:Yaw r=true) (ha:Ycp a=0) (hb:Ycp b=0):
  ∃A B,wtk ctk (Yep (Yge (Yge r a) b)) (r.length+gap r.length)=(A,(Yge r a).length,0)∧shB A a=true∧wtk ctk (Yep (Yge (Yge r a) b)) (Yge r a).length=(B,8*(Yep (Yge (Yge r a) b)).length,0)∧shB B b=true∧(Yge (Yge r a) b).length=8*(Yep (Yge (Yge r a) b)).length∧r.length+gap r.length≤8*(Yep (Yge (Yge r a) b)).length:=by
 obtain ⟨R1,hR1⟩:∃R,Yge r a=R:=⟨_,rfl⟩
 obtain ⟨R2,hR2⟩:∃R,Yge R1 b=R:=⟨_,rfl⟩
 rw [hR1,hR2]
 have r1:Yaw R1=true:=hR1▸Y0s hr a
 have r2:Yaw R2=true:=hR2▸Y0s r1 b
 have e1:R1.length%8=0:=hR1▸Yq2 r a
 have e2:R2.length%8=0:=hR2▸Yq2 R1 b
 have hp:Yac (Yep R2)=R2:=by
  rw [Y9l R2 r2]
  unfold Qah
  rw [show (8-R2.length%8)%8=0 by omega]
  exact List.append_nil _
 have hlen:R2.length=8*(Yep R2).length:=by rw [Yfv];omega
 have f1:R1=(r++Ykc r.length)++Yb1 0 a:=by rw [←hR1];exact Qgb r a
 have f2:R2=R1++Yb1 0 b:=by rw [←hR2];exact Y77 e1 b
 have l1:=congrArg List.length f1
 have l2:=congrArg List.length f2
 have hf0:(Ykc r.length).length=gap r.length:=List.length_replicate
 rw [List.length_append,List.length_append,hf0] at l1
 rw [List.length_append] at l2
 have g8:(r.length+gap r.length)%8=0:=by unfold gap;omega
 have s1:Seg (Yac (Yep R2)) (r.length+gap r.length) R1.length (Yb1 0 a):=by
  rw [hp,f2,l1]
  have h:=Seg.all (r++Ykc r.length) (Yb1 0 a) (Yb1 0 b)
  rw [←f1] at h
  rw [List.length_append,hf0] at h
  exact h
 have s2:Seg (Yac (Yep R2)) R1.length (8*(Yep R2).length) (Yb1 0 b):=by
  rw [←hlen,hp,l2]
  have h:=Seg.all R1 (Yb1 0 b) []
  rw [List.append_nil,←f2] at h
  exact h
 obtain ⟨A,hA,hA2⟩:=Yxf (Yzv (Yep R2)) (p:=r.length+gap r.length) (q:=R1.length) (S:=a) g8 ha (by rw [Yfy (q:=0) (by omega)];exact s1) (.inr (Y3e s2))
 obtain ⟨B,hB,hB2⟩:=Yxf (Yzv (Yep R2)) (p:=R1.length) (q:=8*(Yep R2).length) (S:=b) e1 hb (by rw [Yfy (q:=0) (by omega)];exact s2) (.inl rfl)
 exact ⟨A,B,hA,hA2,hB,hB2,hlen,by omega⟩
def Yzp (ct:CelT):Prop:=∀inter S x y p i,((ct inter S x y p).1.ev i).length≤65
theorem Y63:Yzp ctk:=Y6g
theorem Yun {ct:CelT} (hct:Yzp ct) {l:List UInt8} {inter:Bool} {k first:Int}:∀(n p:Nat) (vs:List (Int×Int)) (c:Cel) (i:Nat),c∈(Yd4 ct l inter k first n p vs).1→(c.ev i).length≤65
 | 0,p,vs,c,i,h=> by rw [Yd4] at h;cases h
 | n+1,p,vs,c,i,h=> by
  rw [Yd4] at h
  have h0:=hct inter (Yac l) (Yd5 vs (Ydt k) first).1 (Yd5 vs (Ydt k) first).2 p i
  obtain ⟨⟨c1,z,f⟩,hc⟩:∃r,ct inter (Yac l) (Yd5 vs (Ydt k) first).1 (Yd5 vs (Ydt k) first).2 p=r:=⟨_,rfl⟩
  rw [hc] at h h0
  simp only at h h0
  split at h
  ·cases h
  ·split at h
   ·cases h
   ·obtain ⟨⟨cs',y,g⟩,hr⟩:∃r,Yd4 ct l inter k first n z (vs ++ [(c1.mx,c1.my)])=r:=⟨_,rfl⟩
    rw [hr] at h
    simp only at h
    split at h
    ·cases h
    ·rcases List.mem_cons.1 h with rfl | h
     ·exact h0
     ·exact Yun hct n z _ c i (by rw [hr];exact h)
theorem Y04 {ct:CelT} (hct:Yzp ct) {l:List UInt8} {inter:Bool} {k:Int}:∀(n j p:Nat) (vs:List (Int×Int)) (first:Int) (c:Cel) (i:Nat),c∈(Yk6 ct l inter k n j p vs first).1.flatMap (·.cels)→(c.ev i).length≤65
 | 0,j,p,vs,first,c,i,h=> by rw [Yk6] at h;cases h
 | n+1,j,p,vs,first,c,i,h=> by
  rw [Yk6] at h
  obtain ⟨⟨hd,id,qu,z,fs,f⟩,hh⟩:∃r,Ylt l k j p first=r:=⟨_,rfl⟩
  rw [hh] at h
  simp only at h
  split at h
  ·cases h
  ·have h0:=Yun hct (l:=l) (inter:=inter) (k:=k) (first:=fs) (Yg2 k).toNat z vs c i
   obtain ⟨⟨cs,y,g⟩,hc⟩:∃r,Yd4 ct l inter k fs (Yg2 k).toNat z vs=r:=⟨_,rfl⟩
   rw [hc] at h h0
   simp only at h h0
   split at h
   ·cases h
   ·obtain ⟨⟨rs',q',e⟩,hr⟩:∃r,Yk6 ct l inter k n (j+1) y (vs++Yd0 cs) fs=r:=⟨_,rfl⟩
    rw [hr] at h
    simp only at h
    split at h
    ·cases h
    ·simp only [List.flatMap_cons,List.mem_append] at h
     rcases h with h | h
     ·exact h0 h
     ·exact Y04 hct n (j+1) y _ fs c i (by rw [hr];exact h)
theorem Qab {ct:CelT} (hct:Yzp ct) {l:List UInt8} {p:Nat}:∀c∈Yd3 (wtk ct l p).1,∀i,(c.ev i).length≤65:=by
 intro c h i
 unfold wtk at h
 obtain ⟨⟨hd,q,f⟩,hk⟩:∃r,shk l p=r:=⟨_,rfl⟩
 rw [hk] at h
 simp only at h
 split at h
 ·cases h
 ·have h0:=Y04 hct (l:=l) (inter:=hd.inter) (k:=hd.fmt) (Yiw hd.fmt).toNat 0 q [] 0 c i
  obtain ⟨⟨rs,z,g⟩,hr⟩:∃r,Yk6 ct l hd.inter hd.fmt (Yiw hd.fmt).toNat 0 q [] 0=r:=⟨_,rfl⟩
  rw [hr] at h h0
  simp only at h h0
  split at h
  ·cases h
  ·split at h
   ·cases h
   ·exact h0 h
end Go.Proofs.YtgikochfffdpfaaGreatDoor