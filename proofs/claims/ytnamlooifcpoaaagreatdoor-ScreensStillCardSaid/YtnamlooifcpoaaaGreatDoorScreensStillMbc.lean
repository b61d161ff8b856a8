/- No condition. -/
import Derived.Test.YtnamlooifcpoaaaGreatDoorScreensStillMj
import Derived.Lib.OthersKept
namespace Go.Proofs.YtnamlooifcpoaaaGreatDoor
open Go.RowKit
theorem Ylm (s:ByteArray)(p:Nat)(h:p<s.size)(c:s[p].toNat=48∨s[p].toNat=49):Utf8.decode s p=(s[p].toNat,1):=
 decode_ascii s p h (by omega)
theorem Ysm (s:ByteArray)(p:Nat)(h:p<s.size)(c0:s[p].toNat≠48)(c1:s[p].toNat≠49):(Utf8.decode s p).1≠48∧(Utf8.decode s p).1≠49:=by
 by_cases ha:s[p].toNat<128
 ·rw[decode_ascii s p h ha];exact⟨c0,c1⟩
 ·have:=(decode_high s p h (by omega)).1;omega
theorem Yw7 (s:ByteArray)(p:Nat)(h:p<s.size)(c0:s[p].toNat≠48)(c1:s[p].toNat≠49):Ybs s.data.toList=false:=by
 unfold Ybs;rw[List.all_eq_false];refine⟨s[p],List.getElem_mem (by exact h),?_⟩;have e1:¬ s[p]=48:=fun e=>c0 (by rw[e];rfl);have e2:¬ s[p]=49:=fun e=>c1 (by rw[e];rfl);simp[e1,e2]
theorem Yw6 (s:ByteArray)(p:Nat)(h:p<s.size)(c:s[p].toNat=48∨s[p].toNat=49)(hr:Ybs (s.data.toList.take p)=true):Ybs (s.data.toList.take (p+1))=true:=by
 have e:Ybs (s.data.toList.take (p+1))=(Ybs (s.data.toList.take p)&&(s[p]==48 || s[p]==49)):=Yvf _ s.data.toList p h;rw[e,hr];rcases c with c|c
 ·have:s[p]=48:=UInt8.toNat_inj.1 c;rw[this];rfl
 ·have:s[p]=49:=UInt8.toNat_inj.1 c;rw[this];rfl
set_option maxHeartbeats 1000000 in
theorem Yp5 (s:ByteArray)(w:World):
  Calls Tryz.prog 156 #[.string s] w fun e w'=>e=.returned (.bool (Ybs s.data.toList))∧Below w.heap.size w w':=by
 obtain⟨B,hB⟩:∃B,w.heap.size=B:=⟨_,rfl⟩;have hit0:(w.iter s 0).heap[B]? =some (.stringIter s 0):=by rw[←hB];exact World.iter_heap w s 0
 have hb0:Below B w (w.iter s 0):=(Below.refl B w).alloc (by omega) _;have IT:=Lib.hid hit0;rw[hB];have HB:=Lib.hid hB;clear hit0 hB
 go_enter Tryz.func156,Tryz.ntmps156
 go_wp2
 rw[HB.out]
 go_loopw [] (fun wr=>∃p:Nat,p≤s.size∧wr.heap[B]? =some (.stringIter s p)∧Below B w wr∧Ybs (s.data.toList.take p)=true) (fun wr=>s.size-wr.iterPos B)
 case atStart=>exact⟨0,Nat.zero_le _,IT.out,hb0,rfl⟩
 case round=>
  clear IT hb0;obtain⟨p,hp,hit,hb,hr⟩:=hrel;have R:=Lib.hid hr;clear hr;by_cases hlt:p<s.size
  ·have hnx:∀ty,(Instr.next (.pointer (some ⟨B,0,none⟩)) true ty).run Tryz.prog wr=_:=fun ty=>Lib.run_next_any_at wr B s p ty hit hlt;have hit2:=Lib.iterAt_heap wr B s p (p+(Utf8.decode s p).2) hit;have hb2:=Lib.below_iterAt hb (k:=B) (Nat.le_refl _) s (p+(Utf8.decode s p).2);by_cases c:s[p].toNat=48∨s[p].toNat=49
   ·have hd:=Ylm s p hlt c;have M:=Lib.hid (Yw6 s p hlt c R.out);rw[hd] at hnx hit2 hb2;clear hd;have H2:=Lib.hid hit2;have HI:=Lib.hid hit;clear hit hit2;rcases c with c|c
    ·have d1:((s[p].toNat:Int) != 48)=false:=by rw[c];rfl
     clear c
     go_wp2
     go_roundw
     case rel=>exact⟨p+1,by omega,H2.out,hb2,M.out⟩
     case measure=>simp only[World.iterPos,H2.out,HI.out];omega
    ·have d1:((s[p].toNat:Int) != 48)=true:=by rw[c];rfl
     have d2:((s[p].toNat:Int) != 49)=false:=by rw[c];rfl
     clear c
     go_wp2
     go_roundw
     case rel=>exact⟨p+1,by omega,H2.out,hb2,M.out⟩
     case measure=>simp only[World.iterPos,H2.out,HI.out];omega
   ·have S:=Lib.hid (Yw7 s p hlt (by omega) (by omega));obtain⟨e0,e1⟩:=Ysm s p hlt (by omega) (by omega);have d1:(((Utf8.decode s p).1:Int) != 48)=true:=by rw[bne_iff_ne];omega
    have d2:(((Utf8.decode s p).1:Int) != 49)=true:=by rw[bne_iff_ne];omega
    clear c hit hit2 e0 e1
    go_wp2
    go_ret
    exact⟨Yae S.out.symm,hb2⟩
  ·have hnx:∀ty,(Instr.next (.pointer (some ⟨B,0,none⟩)) true ty).run Tryz.prog wr=_:=fun ty=>Lib.run_next_end_at wr B s p ty hit hlt;obtain rfl:p=s.size:=by omega
   clear hit
   go_wp2
   go_ret
   exact⟨Yae (by rw[←R.out,List.take_of_length_le (by exact Nat.le_refl _)]),hb⟩
end Go.Proofs.YtnamlooifcpoaaaGreatDoor