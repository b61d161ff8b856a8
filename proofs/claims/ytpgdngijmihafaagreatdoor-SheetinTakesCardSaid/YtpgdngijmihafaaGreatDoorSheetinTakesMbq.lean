/- Texts that SheetinTakes's proof stands on, part 43 of 52. No condition of its own. -/
import Derived.Test.YtpgdngijmihafaaGreatDoorSheetinTakesMs
import Derived.Test.YtpgdngijmihafaaGreatDoorSheetinTakesMv
import Derived.Test.YtpgdngijmihafaaGreatDoorSheetinTakesMbm
import Derived.Test.YtpgdngijmihafaaGreatDoorSheetinTakesMbo
namespace Go.Proofs.YtpgdngijmihafaaGreatDoor
theorem Y9y (inter:Bool):∀x∈Yiu inter,Yen inter (sA x.2) (sB x.2)=x.1:=by
 cases inter <;> decide +kernel
theorem Y5t {inter:Bool} {B:List UInt8} {a b:Int} {n:Nat} (h:mtk inter B=(a,b,0,n)):
  B.take n=(Yen inter a b).data.toList∧n=(Yen inter a b).size∧n≤B.length∧(Yen inter a b).data.toList.isEmpty=false∧a≠2:=by
 obtain ⟨⟨f,k⟩,ht⟩:∃x,tk ((Yiu inter).map rowCY) B 25 1=x:=⟨_,rfl⟩
 by_cases hf:f=0
 ·subst hf
  obtain ⟨h1,h2,h3⟩:=Yoq ht
  obtain ⟨x,hx,hxe⟩:=List.mem_map.1 h1
  rw [Yvs inter ht hx hxe] at h
  split at h
  ·simp at h
  next h5=>
   simp only [Prod.mk.injEq,true_and] at h
   obtain ⟨rfl,rfl,rfl⟩:=h
   rw [Y9y inter x hx]
   have e:x.1.data.toList=B.take k:=hxe
   have hl:x.1.data.toList.length=k:=by rw [e,List.length_take];omega
   refine ⟨e.symm,hl.symm,h2,?_,h5⟩
   cases hq:x.1.data.toList with
   | nil=> rw [hq] at hl;simp at hl;omega
   | cons _ _=> rfl
 ·rw [Ynt inter ht hf] at h
  simp only [Prod.mk.injEq] at h
  exact absurd h.2.2.1 hf
theorem Yps {all:List (ByteArray×Int)} {F:Int→ByteArray} (hF:∀x∈all,F x.2=x.1) {B:List UInt8} {v:Int} {n:Nat} (h:gtk all B=(v,0,n)):
  B.take n=(F v).data.toList∧n=(F v).size∧n≤B.length∧∃x∈all,x.2=v:=by
 obtain ⟨⟨f,k⟩,ht⟩:∃x,tk (all.map rowC) B 25 1=x:=⟨_,rfl⟩
 unfold gtk at h
 rw [ht] at h
 by_cases hf:f=0
 ·subst hf
  obtain ⟨h1,h2,h3⟩:=Yoq ht
  rw [if_pos rfl] at h
  split at h
  next x hx=>
   simp only [Prod.mk.injEq,true_and] at h
   obtain ⟨rfl,rfl⟩:=h
   have hm:=List.mem_of_find?_eq_some hx
   have e:x.1.data.toList=B.take k:=by simpa [rowC] using List.find?_some hx
   rw [hF x hm]
   exact ⟨e.symm,by have:=congrArg List.length e;rw [List.length_take] at this;have h2:x.1.data.toList.length=x.1.size:=rfl;omega,h2,x,hm,rfl⟩
  next hx=>
   obtain ⟨y,hy,hye⟩:=List.mem_map.1 h1
   have:=List.find?_eq_none.1 hx y hy
   rw [hye] at this
   simp at this
 ·rw [if_neg hf] at h
  simp only [Prod.mk.injEq] at h
  exact absurd h.2.1 hf
theorem Y8v (intra:Bool):∀x∈Yh5 intra,Y17 intra x.2=x.1:=by
 cases intra <;> decide +kernel
theorem Y7n {intra:Bool} {B:List UInt8} {v:Int} {n:Nat} (h:ptk intra B=(v,0,n)):B.take n=(Y17 intra v).data.toList∧n=(Y17 intra v).size∧n≤B.length∧0≤v∧v<16:=by
 obtain ⟨h1,h2,h3,x,hx,hv⟩:=Yps (Y8v intra) (show gtk (Yh5 intra) B=(v,0,n) from h)
 have hb:∀x∈Yh5 intra,0≤x.2∧x.2<16:=by cases intra <;> decide +kernel
 exact ⟨h1,h2,h3,hv▸(hb x hx).1,hv▸(hb x hx).2⟩
theorem Y5n:∀x∈allD,Yds x.2=x.1:=by decide +kernel
theorem Y6u {B:List UInt8} {d:Int} {n:Nat} (h:dtk B=(d,0,n)):B.take n=(Yds d).data.toList∧n=(Yds d).size∧n≤B.length∧-32≤d∧d≤31:=by
 obtain ⟨h1,h2,h3,x,hx,hv⟩:=Yps Y5n (show gtk allD B=(d,0,n) from h)
 have hb:∀x∈allD,-32≤x.2∧x.2≤31:=by decide +kernel
 exact ⟨h1,h2,h3,hv▸(hb x hx).1,hv▸(hb x hx).2⟩
theorem Y56 {B:List UInt8} {s:Int} {n:Nat} (hB:Yba B=true) (h:stk B=(s,0,n)):B.take n=(Ykk s).data.toList∧n=2∧2≤B.length∧(s = -1∨s = -2∨s=1∨s=2):=by
 by_cases hl:B.length<2
 ·rw [Yvj hl] at h
  simp at h
 ·rw [Yrf (by omega)] at h
  simp only [Prod.mk.injEq,true_and] at h
  obtain ⟨rfl,rfl⟩:=h
  have hr:=Ygv (B.take 2) (Ya9 _ _ hB)
  have h4:=Yhj B hB 2 (by omega)
  have hl2:(B.take 2).length=2:=by rw [List.length_take];omega
  rw [hl2] at hr
  generalize num (B.take 2)=v at hr h4
  rw [←hr]
  match v,h4 with
  | 0,_=> exact ⟨rfl,rfl,by omega,.inl rfl⟩
  | 1,_=> exact ⟨rfl,rfl,by omega,.inr (.inl rfl)⟩
  | 2,_=> exact ⟨rfl,rfl,by omega,.inr (.inr (.inl rfl))⟩
  | 3,_=> exact ⟨rfl,rfl,by omega,.inr (.inr (.inr rfl))⟩
end Go.Proofs.YtpgdngijmihafaaGreatDoor