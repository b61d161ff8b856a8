/- StripsChecks, 12. No condition. -/
import Derived.Test.YtjjmalchelniiaaGreatDoorStripsChecksMd
import Derived.Lib.OthersKept
open Go.Proofs.Tryz
set_option maxHeartbeats 1000000
namespace Go.Proofs.YtjjmalchelniiaaGreatDoor
open Go.RowKit
abbrev Hn:=@bne_iff_ne
abbrev Ho:=@List.all_eq_false
abbrev Hp:=@UInt8.toNat_inj
theorem XJ (s:ByteArray)(p:Nat)(h:p<s.size)(c:s[p].toNat=48\/s[p].toNat=49):Utf8.decode s p=(s[p].toNat,1):=
 decode_ascii s p h (by omega)
theorem iQ (s:ByteArray)(p:Nat)(h:p<s.size)(a:s[p].toNat≠48)(c1:s[p].toNat≠49):(Utf8.decode s p).1≠48/\(Utf8.decode s p).1≠49:=by
 by_cases b:s[p].toNat<128
 ·rw[decode_ascii s p h b];exact⟨a,c1⟩
 ·have:=(decode_high s p h (by omega)).1;omega
theorem cX (s:ByteArray)(p:Nat)(h:p<s.size)(a:s[p].toNat≠48)(c1:s[p].toNat≠49):AK s.data.toList=false:=by
 unfold AK;rw[Ho];refine⟨s[p],Bl (by exact h),?_⟩;have b:¬ s[p]=48:=fun e=>a (by rw[e];rfl);have c:¬ s[p]=49:=fun e=>c1 (by rw[e];rfl);simp[b,c]
theorem fJ (s:ByteArray)(p:Nat)(h:p<s.size)(c:s[p].toNat=48\/s[p].toNat=49)(hr:AK (s.data.toList.take p)=true):AK (s.data.toList.take (p+1))=true:=by
 have e:AK (s.data.toList.take (p+1))=(AK (s.data.toList.take p)&&(s[p]==48 || s[p]==49)):=dY _ s.data.toList p h;rw[e,hr];rcases c with c|c
 ·have:s[p]=48:=Hp.1 c;rw[this];rfl
 ·have:s[p]=49:=Hp.1 c;rw[this];rfl
theorem cA (s:ByteArray)(w:World):
  Calls prog 143 #[.string s] w fun e o=>e=.returned (.bool (AK s.data.toList))/\Below w.heap.size w o:=by
 obtain⟨B,i⟩:∃B,w.heap.size=B:=⟨_,rfl⟩;have f:(w.iter s 0).heap[B]? =some (.stringIter s 0):=by rw[<-i];exact World.iter_heap w s 0
 have g:Below B w (w.iter s 0):=(Dm B w).alloc (by omega) _;have l:=Dl f;rw[i];have q:=Dl i;clear f i
 go_enter func143,ntmps143
 go_wp2
 rw[q.out]
 go_loopw [] (fun wr=>∃p:Nat,p<=s.size/\wr.heap[B]? =some (.stringIter s p)/\Below B w wr/\AK (s.data.toList.take p)=true) (fun wr=>s.size-wr.iterPos B)
 case atStart=>exact⟨0,Dn _,l.out,g,rfl⟩
 case round=>
  clear l g;obtain⟨p,u,hit,m,hr⟩:=hrel;have R:=Dl hr;clear hr;by_cases b:p<s.size
  ·have h:∀ty,(Instr.next (.pointer (some ⟨B,0,none⟩)) true ty).run prog wr=_:=fun ty=>Lib.run_next_any_at wr B s p ty hit b;have a:=Lib.iterAt_heap wr B s p (p+(Utf8.decode s p).2) hit;have d:=Lib.below_iterAt m (k:=B) (Ba _) s (p+(Utf8.decode s p).2);by_cases c:s[p].toNat=48\/s[p].toNat=49
   ·have hd:=XJ s p b c;have M:=Dl (fJ s p b c R.out);rw[hd] at h a d;clear hd;have j:=Dl a;have n:=Dl hit;clear hit a;rcases c with c|c
    ·have d1:((s[p].toNat:Int) != 48)=false:=by rw[c];rfl
     clear c
     go_wp2
     go_roundw
     case rel=>exact⟨p+1,by omega,j.out,d,M.out⟩
     case measure=>simp only[World.iterPos,j.out,n.out];omega
    ·have d1:((s[p].toNat:Int) != 48)=true:=by rw[c];rfl
     have d2:((s[p].toNat:Int) != 49)=false:=by rw[c];rfl
     clear c
     go_wp2
     go_roundw
     case rel=>exact⟨p+1,by omega,j.out,d,M.out⟩
     case measure=>simp only[World.iterPos,j.out,n.out];omega
   ·have S:=Dl (cX s p b (by omega) (by omega));obtain⟨r,t⟩:=iQ s p b (by omega) (by omega);have d1:(((Utf8.decode s p).1:Int) != 48)=true:=by rw[Hn];omega
    have d2:(((Utf8.decode s p).1:Int) != 49)=true:=by rw[Hn];omega
    clear c hit a r t
    go_wp2
    go_ret
    exact⟨AB S.out.symm,d⟩
  ·have h:∀ty,(Instr.next (.pointer (some ⟨B,0,none⟩)) true ty).run prog wr=_:=fun ty=>Lib.run_next_end_at wr B s p ty hit b;obtain rfl:p=s.size:=by omega
   clear hit
   go_wp2
   go_ret
   exact⟨AB (by rw[<-R.out,Bh (by exact Ba _)]),m⟩
end Go.Proofs.YtjjmalchelniiaaGreatDoor