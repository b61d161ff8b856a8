/- Texts that SheetinTakes's proof stands on, part 3 of 52. No condition of its own. -/
import Derived.Test.YtpgdngijmihafaaGreatDoorSheetinTakesMa
import Derived.Test.YtpgdngijmihafaaGreatDoorSheetinTakesMb
import Derived.Test.YtpgdngijmihafaaGreatDoorRows
import Derived.WalkKit
import Derived.WalkSpells
import Derived.ProofKit
import Derived.Lib.Hide
import Derived.LoopTactic
import Derived.Laws.Concat
import Derived.Outline
import Derived.Below
namespace Go.Proofs.YtpgdngijmihafaaGreatDoor
open Go.RowKit
theorem Qbz (m j x:Nat) (h:m / 2^j=x):m / 2^(j+1)=x / 2:=by rw [Nat.pow_succ,←Nat.div_div_eq_div_mul,h]
set_option maxHeartbeats 400000 in
theorem Y5l (vi ni:Int) (h1:0≤vi) (h2:vi≤9223372036854775807) (h3:0≤ni) (h4:ni≤32) (w:World):
  Calls Tryz.prog 25 #[.int .i64 vi,.int .i64 ni] w fun e w'=> e = .returned (.string ⟨(Ybg vi.toNat ni.toNat).toArray⟩)∧w=w':=by
 obtain ⟨v,rfl⟩:=Int.eq_ofNat_of_zero_le h1
 obtain ⟨n,rfl⟩:=Int.eq_ofNat_of_zero_le h3
 simp only [Int.toNat_natCast]
 have v2:v≤9223372036854775807:=by omega
 have n2:n≤32:=by omega
 clear h1 h2 h3 h4
 go_enter Tryz.func25,Tryz.ntmps25
 go_wp2
 go_loop [0,5,6] (fun x s i=>∃j y:Nat,j≤n∧i = .int .i64 j∧x = .int .i64 y∧s = .string ⟨(Ybg v j).toArray⟩∧v / 2^j=y) (fun _ _ i=> n-(intOf i).toNat)
 case atStart=> exact ⟨0,v,Nat.zero_le _,rfl,rfl,rfl,by simp⟩
 case round=>
  obtain ⟨j,y,hj,rfl,rfl,rfl,hy⟩:=hrel
  have hq:y≤v:=by rw [←hy];exact Nat.div_le_self _ _
  have Y:=Lib.hid hy
  clear hy
  have hl:(Ybg v j).length≤32:=by rw [Ya6];omega
  by_cases hlt:j<n
  ·go_wp2
   go_round
   case rel=> exact ⟨j+1,y / 2,by omega,by go_num,by go_num,by rw [Y0n _ _ _ Y.out],Qbz _ _ _ Y.out⟩
   case measure=> simp [intOf];omega
  ·obtain rfl:j=n:=by omega
   go_wp2
   go_ret
   exact ⟨rfl,rfl⟩
theorem Y60 {a b:List UInt8} (h:a=b):Ending.returned (.string ⟨a.toArray⟩) = .returned (.string ⟨b.toArray⟩):=by rw [h]
theorem Y7b {w:World} {base e:Nat} {v:Value} {l:List UInt8} (h:Ycp w base e v l):∀k,v.ownBlock=some k→base≤k:=by
 intro k hk
 rcases h.2 with ⟨rfl,_⟩ | ⟨g,cap,cur,rfl,hg,_⟩
 ·cases hk
 ·cases hk;exact hg
theorem Y84:(Tryz.prog.info? 5).map (fun i=> (i.zero,i.size,i.bytes))=some (some (.int .u8 0),1,1):=by kernel_rfl
set_option maxHeartbeats 1000000 in
theorem Y3g (s:ByteArray) (hs:s.size≤1048576) (w:World):
  Calls Tryz.prog 10 #[.string s] w fun e w'=> e = .returned (.string ⟨(Yac s.data.toList).toArray⟩)∧Below w.heap.size w w':=by
 obtain ⟨i0,hi,hz0,hz1,hz2⟩:=info_parts Y84
 obtain ⟨B,hB⟩:∃B,w.heap.size=B:=⟨_,rfl⟩
 have hB':B≤w.heap.size:=by omega
 rw [hB]
 clear hB
 go_enter Tryz.func10,Tryz.ntmps10
 go_wp2
 go_loopw [3,4] (fun v i wr=>∃j:Nat,j≤s.size∧i = .int .i64 j∧Ycp wr B 5 v (Yac (s.data.toList.take j))∧Below B w wr) (fun _ i _=> s.size-(intOf i).toNat)
 case atStart=> exact ⟨0,Nat.zero_le _,rfl,Ycp.nil _ _ _,Below.refl _ _⟩
 case round=>
  obtain ⟨j,hj,rfl,hown,hb⟩:=hrel
  have hsz:=hb.size
  by_cases hlt:j<s.size
  ·have hc1:0≤(s[j].toNat:Int):=by omega
   have hc2:(s[j].toNat:Int)≤9223372036854775807:=by have:=s[j].toNat_lt;omega
   have hst:=Yy0 s.data.toList j hlt
   have T:=Lib.hid hst
   have hln:(Yac (s.data.toList.take j)).length≤8388608:=by rw [Yah,List.length_take];omega
   clear hst
   go_wp2_with (first
    | (go_at_call 25;refine (Y5l _ _ hc1 hc2 (by omega) (by omega) _).mono ?_;rintro e w' ⟨rfl,rfl⟩)
    | (at_builtin;refine Yn3 rfl rfl Tryz.underlying65 Tryz.underlying9 hi hz0 hz1 hz2 rfl hown rfl ?c1 ?c2 ?c3;(case c1=> (simp only [Ya6];omega));(case c2=> omega);intro v1 w1 hown1 hgrow))
   go_roundw
   case rel=> exact ⟨j+1,by omega,by go_num,by rw [T.out];exact hown1,hb.grown hgrow (by omega) (Y7b hown)⟩
   case measure=> simp [intOf];omega
  ·obtain rfl:j=s.size:=by omega
   have ht:=Ycp.text Tryz.underlying65 Tryz.underlying5 Tryz.underlying9 hown
   go_wp2
   go_ret
   exact ⟨Y60 (by rw [List.take_of_length_le (by exact Nat.le_refl _)]),hb⟩
set_option maxHeartbeats 400000 in
theorem Ycz (s:ByteArray) (hs:s.size≤32) (hr:Yba s.data.toList=true) (w:World):
  Calls Tryz.prog 37 #[.string s] w fun e w'=> e = .returned (.int .i64 (num s.data.toList))∧w=w':=by
 have hbits:∀j,j≤s.size→num (s.data.toList.take j)≤4294967296:=fun j hj=> by
  have h1:=Yhj s.data.toList hr j hj
  have h2:2^j≤2^32:=Nat.pow_le_pow_right (by omega) (by omega:j≤32)
  omega
 have R:=Lib.hid hr
 have HB:=Lib.hid hbits
 clear hr hbits
 go_enter Tryz.func37,Tryz.ntmps37
 go_wp2
 go_loop [3,4] (fun n i=>∃j y:Nat,j≤s.size∧i = .int .i64 j∧n = .int .i64 y∧num (s.data.toList.take j)=y) (fun _ i=> s.size-(intOf i).toNat)
 case atStart=> exact ⟨0,0,Nat.zero_le _,rfl,rfl,rfl⟩
 case round=>
  obtain ⟨j,y,hj,rfl,rfl,hy⟩:=hrel
  have hb:=HB.out j hj
  rw [hy] at hb
  have Y:=Lib.hid hy
  clear hy
  by_cases hlt:j<s.size
  ·have hc:=Yfr s.data.toList j hlt R.out
   have hc1:48≤(s[j].toNat:Int):=by have:s.data.toList[j]=s[j]:=rfl;rw [this] at hc;omega
   have hc2:(s[j].toNat:Int)≤49:=by have:s.data.toList[j]=s[j]:=rfl;rw [this] at hc;omega
   have hst:num (s.data.toList.take (j+1))=2*num (s.data.toList.take j)+(s[j].toNat-48):=Ylz s.data.toList j hlt
   rw [Y.out] at hst
   have S:=Lib.hid hst
   clear hst hc
   go_wp2
   go_round
   case rel=> exact ⟨j+1,2*y+(s[j].toNat-48),by omega,by go_num,by go_num,S.out⟩
   case measure=> simp [intOf];omega
  ·obtain rfl:j=s.size:=by omega
   go_wp2
   go_ret
   exact ⟨Yby (by rw [←Y.out,List.take_of_length_le (by exact Nat.le_refl _)]),rfl⟩
theorem Yvx (x:Int):bits .and .i64 x 1=x%2:=Yhb x 1 (by omega)
end Go.Proofs.YtpgdngijmihafaaGreatDoor