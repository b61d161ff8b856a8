/- Texts that SheetoutPuts's proof stands on, part 3 of 47. No condition of its own. -/
import Derived.Test.YtgikochfffdpfaaGreatDoorSheetoutPutsMa
import Derived.Test.YtgikochfffdpfaaGreatDoorSheetoutPutsMb
import Derived.Test.YtgikochfffdpfaaGreatDoorRows
import Derived.WalkKit
import Derived.WalkSpells
import Derived.ProofKit
import Derived.Lib.Hide
import Derived.LoopTactic
import Derived.Laws.Concat
import Derived.Outline
import Derived.Below
namespace Go.Proofs.YtgikochfffdpfaaGreatDoor
open Go.RowKit
theorem Yy7 (m j x:Nat) (h:m / 2^j=x):m / 2^(j+1)=x / 2:=by rw [Nat.pow_succ,←Nat.div_div_eq_div_mul,h]
def Yca (v n:Int):Bool:=decide (0≤n∧n≤32∧0≤v∧v<2^n.toNat)
set_option maxHeartbeats 400000 in
theorem Ycp (vi ni:Int) (h1:0≤vi) (h2:vi≤9223372036854775807) (h3:0≤ni) (h4:ni≤32) (w:World):
  Calls Tryz.prog 64 #[.int .i64 vi,.int .i64 ni] w fun e w'=> e = .returned (.string ⟨(Yak vi.toNat ni.toNat).toArray⟩)∧w=w':=by
 obtain ⟨v,rfl⟩:=Int.eq_ofNat_of_zero_le h1
 obtain ⟨n,rfl⟩:=Int.eq_ofNat_of_zero_le h3
 simp only [Int.toNat_natCast]
 have v2:v≤9223372036854775807:=by omega
 have n2:n≤32:=by omega
 clear h1 h2 h3 h4
 go_enter Tryz.func64,Tryz.ntmps64
 go_wp2
 go_loop [0,5,6] (fun x s i=>∃j y:Nat,j≤n∧i = .int .i64 j∧x = .int .i64 y∧s = .string ⟨(Yak v j).toArray⟩∧v / 2^j=y) (fun _ _ i=> n-(intOf i).toNat)
 case atStart=> exact ⟨0,v,Nat.zero_le _,rfl,rfl,rfl,by simp⟩
 case round=>
  obtain ⟨j,y,hj,rfl,rfl,rfl,hy⟩:=hrel
  have hq:y≤v:=by rw [←hy];exact Nat.div_le_self _ _
  have Y:=Lib.hid hy
  clear hy
  have hl:(Yak v j).length≤32:=by rw [Yag];omega
  by_cases hlt:j<n
  ·go_wp2
   go_round
   case rel=> exact ⟨j+1,y / 2,by omega,by go_num,by go_num,by rw [Yr7 _ _ _ Y.out],Yy7 _ _ _ Y.out⟩
   case measure=> simp [intOf];omega
  ·obtain rfl:j=n:=by omega
   go_wp2
   go_ret
   exact ⟨rfl,rfl⟩
theorem Ypu (p:UInt8→Bool) (l:List UInt8) (j:Nat) (h:j<l.length):(l.take (j+1)).all p=((l.take j).all p&&p l[j]):=by
 rw [List.take_succ_eq_append_getElem h,List.all_append];simp
set_option maxHeartbeats 400000 in
theorem Yr3 (s:ByteArray) (hs:s.size≤maxLen) (w:World):
  Calls Tryz.prog 7 #[.string s] w fun e w'=> e = .returned (.bool (Yat s.data.toList))∧w=w':=by
 unfold maxLen at hs
 go_enter Tryz.func7,Tryz.ntmps7
 go_wp2
 go_loop [3] (fun i=>∃j:Nat,j≤s.size∧i = .int .i64 j∧Yat (s.data.toList.take j)=true) (fun i=> s.size-(intOf i).toNat)
 case atStart=> exact ⟨0,Nat.zero_le _,rfl,rfl⟩
 case round=>
  obtain ⟨j,hj,rfl,hr⟩:=hrel
  have R:=Lib.hid hr
  clear hr
  by_cases hlt:j<s.size
  ·have hstep:Yat (s.data.toList.take (j+1))=(Yat (s.data.toList.take j)&&(s[j]==48 || s[j]==49)):=Ypu _ s.data.toList j hlt
   have S:=Lib.hid hstep
   clear hstep
   by_cases c0:s[j].toNat=48
   ·have hd:s[j]=48:=UInt8.toNat_inj.1 c0
    have D:=Lib.hid hd
    have c1:((s[j].toNat:Int) != 48)=false:=by simp [c0]
    clear hd c0
    go_wp2
    go_round
    case rel=> exact ⟨j+1,by omega,by go_num,by rw [S.out,R.out,D.out];rfl⟩
    case measure=> simp [intOf];omega
   ·have c1:((s[j].toNat:Int) != 48)=true:=by rw [bne_iff_ne];omega
    by_cases c2:s[j].toNat=49
    ·have hd:s[j]=49:=UInt8.toNat_inj.1 c2
     have D:=Lib.hid hd
     have c3:((s[j].toNat:Int) != 49)=false:=by simp [c2]
     clear hd c2 c0
     go_wp2
     go_round
     case rel=> exact ⟨j+1,by omega,by go_num,by rw [S.out,R.out,D.out];rfl⟩
     case measure=> simp [intOf];omega
    ·have c3:((s[j].toNat:Int) != 49)=true:=by rw [bne_iff_ne];omega
     have hf:Yat s.data.toList=false:=by
      unfold Yat
      rw [List.all_eq_false]
      refine ⟨s[j],List.getElem_mem (by exact hlt),?_⟩
      have e1:¬ s[j]=48:=fun e=> c0 (by rw [e];rfl)
      have e2:¬ s[j]=49:=fun e=> c2 (by rw [e];rfl)
      simp [e1,e2]
     have F:=Lib.hid hf
     clear hf c0 c2
     go_wp2
     go_ret
     exact ⟨Yad F.out.symm,rfl⟩
  ·obtain rfl:j=s.size:=by omega
   go_wp2
   go_ret
   exact ⟨Yad (by rw [←R.out,List.take_of_length_le (by exact Nat.le_refl _)]),rfl⟩
theorem Ywx {a b:List UInt8} (h:a=b):Ending.returned (.string ⟨a.toArray⟩) = .returned (.string ⟨b.toArray⟩):=by rw [h]
theorem Yqf {w:World} {base e:Nat} {v:Value} {l:List UInt8} (h:Yay w base e v l):∀k,v.ownBlock=some k→base≤k:=by
 intro k hk
 rcases h.2 with ⟨rfl,_⟩ | ⟨g,cap,cur,rfl,hg,_⟩
 ·cases hk
 ·cases hk;exact hg
theorem Yoy:(Tryz.prog.info? 5).map (fun i=> (i.zero,i.size,i.bytes))=some (some (.int .u8 0),1,1):=by kernel_rfl
set_option maxHeartbeats 400000 in
theorem Yo3 (s:ByteArray) (hs:s.size≤32) (hr:Yat s.data.toList=true) (w:World):
  Calls Tryz.prog 44 #[.string s] w fun e w'=> e = .returned (.int .i64 (num s.data.toList))∧w=w':=by
 have hbits:∀j,j≤s.size→num (s.data.toList.take j)≤4294967296:=fun j hj=> by
  have h1:=Yue s.data.toList hr j hj
  have h2:2^j≤2^32:=Nat.pow_le_pow_right (by omega) (by omega:j≤32)
  omega
 have R:=Lib.hid hr
 have HB:=Lib.hid hbits
 clear hr hbits
 go_enter Tryz.func44,Tryz.ntmps44
 go_wp2
 go_loop [3,4] (fun n i=>∃j y:Nat,j≤s.size∧i = .int .i64 j∧n = .int .i64 y∧num (s.data.toList.take j)=y) (fun _ i=> s.size-(intOf i).toNat)
 case atStart=> exact ⟨0,0,Nat.zero_le _,rfl,rfl,rfl⟩
 case round=>
  obtain ⟨j,y,hj,rfl,rfl,hy⟩:=hrel
  have hb:=HB.out j hj
  rw [hy] at hb
  have Y:=Lib.hid hy
  clear hy
  by_cases hlt:j<s.size
  ·have hc:=Yi5 s.data.toList j hlt R.out
   have hc1:48≤(s[j].toNat:Int):=by have:s.data.toList[j]=s[j]:=rfl;rw [this] at hc;omega
   have hc2:(s[j].toNat:Int)≤49:=by have:s.data.toList[j]=s[j]:=rfl;rw [this] at hc;omega
   have hst:num (s.data.toList.take (j+1))=2*num (s.data.toList.take j)+(s[j].toNat-48):=Yqd s.data.toList j hlt
   rw [Y.out] at hst
   have S:=Lib.hid hst
   clear hst hc
   go_wp2
   go_round
   case rel=> exact ⟨j+1,2*y+(s[j].toNat-48),by omega,by go_num,by go_num,S.out⟩
   case measure=> simp [intOf];omega
  ·obtain rfl:j=s.size:=by omega
   go_wp2
   go_ret
   exact ⟨Yfd (by rw [←Y.out,List.take_of_length_le (by exact Nat.le_refl _)]),rfl⟩
theorem Ynd (s:ByteArray) (hs:s.size=8) (hr:Yat s.data.toList=true) (w:World):
  Calls Tryz.prog 44 #[.string s] w fun e w'=>∃y:Nat,e = .returned (.int .i64 (y:Int))∧w=w'∧(y:Int)≤255∧Hid (num s.data.toList=y):=by
 refine (Yo3 s (by omega) hr w).mono ?_
 rintro e w' ⟨rfl,rfl⟩
 refine ⟨_,rfl,rfl,?_,Lib.hid rfl⟩
 have:=Yue s.data.toList hr 8 (by rw [←hs];exact Nat.le_refl _)
 rw [List.take_of_length_le (by rw [←hs];exact Nat.le_refl _)] at this
 omega
def Yxo:Value→Nat | .string s=> s.size | _=> 0
theorem Yyl (x:Int):bits .and .i64 x 1=x%2:=Yol x 1 (by omega)
theorem Yre (y:Nat):(((Yd6 y).toNat:Nat):Int)=48+(y:Int)%2:=by
 have h:y%2=0∨y%2=1:=by omega
 unfold Yd6
 rcases h with h | h
 ·rw [if_pos h];have:((48:UInt8).toNat:Int)=48:=rfl;omega
 ·rw [if_neg (by omega)];have:((49:UInt8).toNat:Int)=49:=rfl;omega
theorem Yrf (v k:Nat):(48+bits .and .i64 ((v:Int) / 2^k) 1)%256=(((Yd6 (v / 2^k)).toNat:Nat):Int):=by
 rw [Yyl,Yre]
 have e:(((v / 2^k:Nat)):Int)=(v:Int) / 2^k:=by simp
 rw [e]
 omega
theorem Yk6 (v:Nat):∀(n j:Nat),j<n→(Yak v n).take (j+1)=(Yak v n).take j ++ [Yd6 (v / 2^(n-1-j))]
 | 0,j,h=> by omega
 | n+1,0,_=> by simp [Yak]
 | n+1,j+1,h=> by
  have ih:=Yk6 v n j (by omega)
  rw [Yak,List.take_succ_cons,List.take_succ_cons,ih,show n+1-1-(j+1)=n-1-j by omega]
  rfl
set_option maxRecDepth 100000 in
set_option maxHeartbeats 1000000 in
theorem Yor (v n:Int) (sv:Value) (l:List UInt8) (B:Nat) (w:World) (h1:0≤v) (h2:v≤9223372036854775807) (h3:0≤n) (h4:n≤32)
  (hown:Yay w B 5 sv l) (hl:l.length≤1073741824) (hB:B≤w.heap.size):
  Calls Tryz.prog 92 #[sv,.int .i64 v,.int .i64 n] w fun e w'=>∃sv',e = .returned sv'∧Yay w' B 5 sv' (l++Yak v.toNat n.toNat)∧Below B w w':=by
 obtain ⟨i0,hi,hz0,hz1,hz2⟩:=info_parts Yoy
 obtain ⟨v,rfl⟩:=Int.eq_ofNat_of_zero_le h1
 obtain ⟨n,rfl⟩:=Int.eq_ofNat_of_zero_le h3
 simp only [Int.toNat_natCast]
 clear h1 h3
 go_enter Tryz.func92,Tryz.ntmps92
 go_wp2
 go_loopw [0,7] (fun s p wr=>∃j:Nat,j≤n∧p = .int .i64 ((n:Int)-1-j)∧Yay wr B 5 s (l++(Yak v n).take j)∧Below B w wr) (fun _ p _=> (intOf p+1).toNat)
 case atStart=> exact ⟨0,Nat.zero_le _,by simp,by simpa using hown,Below.refl _ _⟩
 case round=>
  obtain ⟨j,hj,rfl,hown1,hb⟩:=hrel
  have hsz:=hb.size
  by_cases hlt:j<n
  ·have hp:0≤(n:Int)-1-j:=by omega
   have hln:(l++(Yak v n).take j).length≤1073741824+32:=by rw [List.length_append,List.length_take,Yag];omega
   have hst:=Yk6 v n j hlt
   have T:=Lib.hid hst
   clear hst
   go_wp2_with (at_builtin;refine Yf9 (b:=Yd6 (v / 2^(n-1-j))) rfl rfl Tryz.underlying78 hi hz0 hz1 hz2 rfl (hown1.alloc _) rfl ?c1 ?c2 ?c3 ?_;(case c1=> (rw [Yrf];go_cell));(case c2=> omega);(case c3=> (simp;omega));intro v1 w1 hown2 hgrow)
   rw [List.append_assoc,←T.out] at hown2
   go_roundw
   case rel=> exact ⟨j+1,by omega,by go_num,hown2,(hb.alloc (by omega) _).grown hgrow (by simp;omega) (Yqf hown1)⟩
   case measure=> simp [intOf];omega
  ·obtain rfl:j=n:=by omega
   have hp:¬ 0≤(j:Int)-1-j:=by omega
   go_wp2
   go_ret
   exact ⟨_,rfl,by rwa [List.take_of_length_le (by rw [Yag];exact Nat.le_refl _)] at hown1,hb⟩
theorem Yks {v n:Int} (h:Yca v n=true):0≤n∧n≤32∧0≤v∧v<2^n.toNat:=by
 unfold Yca at h
 simpa using h
theorem Yuh (v n:Int) (h0:0≤v) (h1:v<2^n.toNat):v / 2^n.toNat=0:=Int.ediv_eq_zero_of_lt h0 h1
set_option maxHeartbeats 1000000 in
theorem Yhk (v n:Int) (w:World) (h2:v≤9223372036854775807) (hf:Yca v n=true):
  Calls Tryz.prog 59 #[.int .i64 v,.int .i64 n] w fun e w'=> e = .returned (.tuple #[.string ⟨(Yak v.toNat n.toNat).toArray⟩,.int .i64 0])∧Below w.heap.size w w':=by
 obtain ⟨n0,n1,v0,v1⟩:=Yks hf
 have hz:=Yuh v n v0 v1
 have t1:(v / 2^n.toNat != 0)=false:=by rw [hz];rfl
 have t2:decide (n<0)=false:=by simpa using n0
 have t3:decide (32<n)=false:=by simpa using n1
 have t4:decide (v<0)=false:=by simpa using v0
 clear hz hf v1
 go_enter Tryz.func59,Tryz.ntmps59
 go_wp2_with fail
 refine (Yor _ _ _ [] w.heap.size _ v0 h2 n0 n1 (Yay.nil _ _ _) (by simp) (by simp)).mono ?_
 rintro e w1 ⟨sv,rfl,hown,hb⟩
 rw [List.nil_append] at hown
 have ht:=Yay.text Tryz.underlying78 Tryz.underlying5 Tryz.underlying9 hown
 go_wp2
 go_ret2
 exact ⟨rfl,hb⟩
end Go.Proofs.YtgikochfffdpfaaGreatDoor