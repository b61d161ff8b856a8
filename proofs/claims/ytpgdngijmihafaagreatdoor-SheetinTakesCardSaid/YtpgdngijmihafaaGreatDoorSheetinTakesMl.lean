/- Texts that SheetinTakes's proof stands on, part 12 of 52. No condition of its own. -/
import Derived.Test.YtpgdngijmihafaaGreatDoorSheetinTakesMa
import Derived.Test.YtpgdngijmihafaaGreatDoorSheetinTakesMc
import Derived.Test.YtpgdngijmihafaaGreatDoorSheetinTakesMd
import Derived.Test.YtpgdngijmihafaaGreatDoorSheetinTakesMf
import Derived.Deep.RegionLaw
import Derived.Laws.CopyOwn
import Derived.BigRegion
import Derived.Lib.OthersKept
import Derived.WalkMore
import Derived.RegionTactic
import Derived.Deep.RegionWith
namespace Go.Proofs.YtpgdngijmihafaaGreatDoor
open Go.RowKit
theorem Y8j (y:Nat):(y:Int) / 2^5=((y / 32:Nat):Int):=by simp
theorem low5 (y:Nat):bits .and .i64 (y:Int) 31=((y%32:Nat):Int):=by
 have:=Yhb (y:Int) 5 (by omega)
 rw [show (2:Int)^5-1=31 from rfl] at this
 rw [this]
 simp
theorem Ydq {l:List UInt8} {bit:Int} {v c:Int} (h:Ya2 l bit=(v,c)) {k k':IntKind}:Ending.returned (.tuple #[.int k v,.int k' c]) = .returned (.tuple #[.int k (Ya2 l bit).1,.int k' (Ya2 l bit).2]):=by rw [h]
set_option maxHeartbeats 1000000 in
theorem Yxz (w:World) (s:ByteArray) (bit:Int) (hs:s.size≤1099511627776):
  Calls Tryz.prog 114 #[.string s,.int .i64 bit] w fun e w'=> e = .returned (.tuple #[.int .i64 (Ya2 s.data.toList bit).1,.int .i64 (Ya2 s.data.toList bit).2])∧Below w.heap.size w w':=by
 have hsl:s.data.toList.length=s.size:=rfl
 obtain ⟨b,hb⟩:∃b,w.heap.size=b:=⟨_,rfl⟩
 have hr0:Ybb (w.alloc (Yms s 0)) b s 0:=Ybb.fresh hb (Nat.le_trans hs (by decide))
 have hb0:Below w.heap.size w (w.alloc (Yms s 0)):=(Below.refl _ w).alloc (Nat.le_refl _) _
 have hz0:(w.alloc (Yms s 0)).heap.size=b+1:=by simp;exact hb
 rw [hb] at hb0
 have HB:=Lib.hid hb
 rw [hb]
 by_cases h1:bit<0∨8*(s.size:Int)<bit
 ·have A:=Lib.hid (Yjn (l:=s.data.toList) (bit:=bit) (by rw [hsl];exact h1))
  go_enter Tryz.func114,Tryz.ntmps114
  go_wp2_with fail
  refine (Ydo _ _).mono ?_
  rintro e w1 ⟨rfl,rfl⟩
  rw [HB.out]
  go_wp2_with fail
  refine (Ypv _ _ _ _ bit hr0 h1).mono ?_
  rintro e w1 ⟨rfl,rfl⟩
  clear h1
  go_wp2
  go_ret2
  exact ⟨Ydq A.out,hb0⟩
 ·obtain ⟨p,rfl⟩:=Int.eq_ofNat_of_zero_le (by omega:0≤bit)
  have hp:p≤8*s.size:=by omega
  clear h1
  by_cases h2:8*s.size<p+22
  ·have A:=Lib.hid (Yfq (l:=s.data.toList) (p:=p) (by rw [hsl];exact hp) (by rw [hsl];exact h2))
   have K:=Lib.hid (Ybi (l:=s.data.toList) (p:=p) (n:=22) (by omega) (by rw [hsl];omega))
   go_enter Tryz.func114,Tryz.ntmps114
   go_wp2_with fail
   refine (Ydo _ _).mono ?_
   rintro e w1 ⟨rfl,rfl⟩
   rw [HB.out]
   go_wp2_with fail
   refine (Ybk _ _ _ _ (p:Int) hr0 (by omega) (by omega)).mono ?_
   rintro e w1 ⟨rfl,hr1,hg1⟩
   rw [Int.toNat_natCast] at hr1
   have hb1:Below b w w1:=hb0.grown hg1 (by omega) (by intro k hk;injection hk with hk;omega)
   have hz1:=hg1.size
   go_wp2_with fail
   refine (Yci _ _ _ _ _ hr1).mono ?_
   rintro e w2 ⟨rfl,hr2,hg2⟩
   rw [K.out]
   have hb2:Below b w w2:=hb1.grown hg2 (by omega) (by intro k hk;injection hk with hk;omega)
   go_wp2
   go_ret2
   exact ⟨Ydq A.out,hb2⟩
  ·have A:=Lib.hid (Ymd (l:=s.data.toList) (p:=p) (by rw [hsl];omega))
   have K:=Lib.hid (Ycw (l:=s.data.toList) (p:=p) (n:=22) (by omega) (by rw [hsl];omega))
   have hlt:Ya0 s.data.toList p (22:Int).toNat<4194304:=Ybr s.data.toList p 22
   have hne:Ya0 s.data.toList p (22:Int).toNat=Ya0 s.data.toList p 22:=rfl
   rw [←hne] at A
   generalize Ya0 s.data.toList p (22:Int).toNat=y at A K hlt
   clear hne
   have S5:=Lib.hid (Y8j y)
   have L5:=Lib.hid (low5 y)
   go_enter Tryz.func114,Tryz.ntmps114
   go_wp2_with fail
   refine (Ydo _ _).mono ?_
   rintro e w1 ⟨rfl,rfl⟩
   rw [HB.out]
   go_wp2_with fail
   refine (Ybk _ _ _ _ (p:Int) hr0 (by omega) (by omega)).mono ?_
   rintro e w1 ⟨rfl,hr1,hg1⟩
   rw [Int.toNat_natCast] at hr1
   have hb1:Below b w w1:=hb0.grown hg1 (by omega) (by intro k hk;injection hk with hk;omega)
   have hz1:=hg1.size
   go_wp2_with fail
   refine (Yci _ _ _ _ _ hr1).mono ?_
   rintro e w2 ⟨rfl,hr2,hg2⟩
   rw [K.out]
   have hb2:Below b w w2:=hb1.grown hg2 (by omega) (by intro k hk;injection hk with hk;omega)
   clear hr0 hb0 hz0 hr1 hg1 hr2 hg2 hb1 hz1 K
   by_cases h3:y / 32=1
   ·have d3:((y:Int) / 32 != 1)=false:=by rw [bne_eq_false_iff_eq];omega
    have A2:=Lib.hid (A.out.trans (if_pos h3))
    clear A h3
    go_wp2
    go_ret2
    rw [L5.out]
    exact ⟨Ydq A2.out,hb2⟩
   ·have d3:((y:Int) / 32 != 1)=true:=by rw [bne_iff_ne];omega
    have A2:=Lib.hid (A.out.trans (if_neg h3))
    clear A h3
    go_wp2
    go_ret2
    exact ⟨Ydq A2.out,hb2⟩
theorem Ye7 {l:List UInt8} {bit:Int} {v:Int} {c:Bool} (h:Ya4 l bit=(v,c)) {k:IntKind}:Ending.returned (.tuple #[.int k v,.bool c]) = .returned (.tuple #[.int k (Ya4 l bit).1,.bool (Ya4 l bit).2]):=by rw [h]
set_option maxHeartbeats 1000000 in
theorem Yoo (w:World) (s:ByteArray) (bit:Int) (hs:s.size≤1099511627776):
  Calls Tryz.prog 116 #[.string s,.int .i64 bit] w fun e w'=> e = .returned (.tuple #[.int .i64 (Ya4 s.data.toList bit).1,.bool (Ya4 s.data.toList bit).2])∧Below w.heap.size w w':=by
 have hsl:s.data.toList.length=s.size:=rfl
 obtain ⟨b,hb⟩:∃b,w.heap.size=b:=⟨_,rfl⟩
 have hr0:Ybb (w.alloc (Yms s 0)) b s 0:=Ybb.fresh hb (Nat.le_trans hs (by decide))
 have hb0:Below w.heap.size w (w.alloc (Yms s 0)):=(Below.refl _ w).alloc (Nat.le_refl _) _
 have hz0:(w.alloc (Yms s 0)).heap.size=b+1:=by simp;exact hb
 rw [hb] at hb0
 have HB:=Lib.hid hb
 rw [hb]
 by_cases h1:bit<0∨8*(s.size:Int)<bit
 ·have A:=Lib.hid (Yjd (l:=s.data.toList) (bit:=bit) (by rw [hsl];exact h1))
  go_enter Tryz.func116,Tryz.ntmps116
  go_wp2_with fail
  refine (Ydo _ _).mono ?_
  rintro e w1 ⟨rfl,rfl⟩
  rw [HB.out]
  go_wp2_with fail
  refine (Ypv _ _ _ _ bit hr0 h1).mono ?_
  rintro e w1 ⟨rfl,rfl⟩
  clear h1
  go_wp2
  go_ret2
  exact ⟨Ye7 A.out,hb0⟩
 ·obtain ⟨p,rfl⟩:=Int.eq_ofNat_of_zero_le (by omega:0≤bit)
  have hp:p≤8*s.size:=by omega
  clear h1
  go_enter Tryz.func116,Tryz.ntmps116
  go_wp2_with fail
  refine (Ydo _ _).mono ?_
  rintro e w1 ⟨rfl,rfl⟩
  rw [HB.out]
  go_wp2_with fail
  refine (Ybk _ _ _ _ (p:Int) hr0 (by omega) (by omega)).mono ?_
  rintro e w1 ⟨rfl,hr1,hg1⟩
  rw [Int.toNat_natCast] at hr1
  have hb1:Below b w w1:=hb0.grown hg1 (by omega) (by intro k hk;injection hk with hk;omega)
  have hz1:=hg1.size
  go_wp2_with fail
  refine (Yj9 _ _ _ _ hr1).mono ?_
  rintro e w2 ⟨rfl,hr2,hg2⟩
  have hb2:Below b w w2:=hb1.grown hg2 (by omega) (by intro k hk;injection hk with hk;omega)
  have hz2:=hg2.size
  have hz:b≤w2.heap.size:=by omega
  clear hr0 hb0 hz0 hr1 hg1 hg2 hb1 hz1 hz2
  by_cases h3:Ya0 s.data.toList p (gap p)=0
  ·have A:=Lib.hid (Yqn (l:=s.data.toList) (p:=p) (by rw [hsl];exact hp) h3)
   have e1:Yg2 s.data.toList p=(((gap p:Nat):Int),0):=if_pos h3
   have e2:Yk2 s.data.toList p=p+gap p:=if_pos h3
   rw [e2] at hr2
   rw [e1]
   generalize p+gap p=q at A hr2
   generalize gap p=g
   clear h3 e1 e2
   go_wp2_with fail
   refine (Ybs _ _ _ _ hr2).mono ?_
   rintro e w3 ⟨rfl,rfl⟩
   go_wp2_with fail
   refine (Yxz _ _ _ hs).mono ?_
   rintro e w4 ⟨rfl,hb4⟩
   go_wp2
   go_ret2
   exact ⟨Ye7 A.out,hb2.trans (hb4.mono hz)⟩
  ·have A:=Lib.hid (Ylh (l:=s.data.toList) (p:=p) (by rw [hsl];exact hp) h3)
   have e1:Yg2 s.data.toList p=(0,5):=if_neg h3
   rw [e1]
   clear h3 e1 hr2
   go_wp2
   go_ret2
   exact ⟨Ye7 A.out,hb2⟩
theorem Yu4 (l:List UInt8) (p:Nat) (h:p+7≤8*l.length):Ya0 l p 7 / 32=Ya0 l p 2∧Ya0 l p 7%32=Ya0 l (p+2) 5:=by
 have e:=Yee l p 2 5 (by omega)
 have h5:=Ybr l (p+2) 5
 have e2:Ya0 l p 7=Ya0 l p (2+5):=rfl
 omega
def Yep (l:List UInt8) (p:Nat) (n:Int):Int×Nat:=
 if (Ya4 l p).2=false then (4,p) else if (Ya4 l p).1≠n then (10,p) else (0,p+gap p+22)
theorem Yss {l:List UInt8} {p:Nat} {n:Int} (h:(Ya4 l p).2=false):Yep l p n=(4,p):=if_pos h
theorem Yo8 {l:List UInt8} {p:Nat} {n:Int} (h:(Ya4 l p).2=true) (h1:(Ya4 l p).1≠n):Yep l p n=(10,p):=by
 unfold Yep;rw [if_neg (by rw [h];decide),if_pos h1]
theorem Y3s {l:List UInt8} {p:Nat} {n:Int} (h:(Ya4 l p).2=true) (h1:(Ya4 l p).1=n):Yep l p n=(0,p+gap p+22):=by
 unfold Yep;rw [if_neg (by rw [h];decide),if_neg (fun k=> k h1)]
set_option maxHeartbeats 1000000 in
theorem Y3i (w:World) (b:Nat) (s:ByteArray) (p:Nat) (n:Int) (hr:Ybb w b s p) (hs:s.size≤1099511627776):
  Calls Tryz.prog 117 #[.pointer (some ⟨b,0,none⟩),.int .i64 n] w fun e w'=> e = .returned (.int .i64 (Yep s.data.toList p n).1)∧Ybb w' b s (Yep s.data.toList p n).2∧w.grownBy w' (some b):=by
 have c1:=fun w=> Yoo w s (p:Int) hs
 have hsl:s.data.toList.length=s.size:=rfl
 have pM:=fun h=> Yss (l:=s.data.toList) (p:=p) (n:=n) h
 have pO:=fun h h1=> Yo8 (l:=s.data.toList) (p:=p) (n:=n) h h1
 have pK:=fun h h1=> Y3s (l:=s.data.toList) (p:=p) (n:=n) h h1
 have hin:=fun h=> Ywo (l:=s.data.toList) (p:=p) h
 have hgp:=fun h=> Yxp (l:=s.data.toList) (p:=p) h
 obtain ⟨m,hm⟩:∃m,(Ya4 s.data.toList p).1=m:=⟨_,rfl⟩
 obtain ⟨ok,hok⟩:∃ok,(Ya4 s.data.toList p).2=ok:=⟨_,rfl⟩
 rw [hm,hok] at c1
 rw [hok] at hin hgp pM pO pK
 rw [hm] at pO pK
 clear hm hok
 obtain ⟨P,hP⟩:∃P,Yep s.data.toList p n=P:=⟨_,rfl⟩
 rw [hP] at pM pO pK ⊢
 clear hP
 cases ok with
 | false=>
  obtain rfl:=pM rfl
  clear pM pO pK hin hgp
  go_enter Tryz.func117,Tryz.ntmps117
  go_wp2_with fail
  refine (Ydk _ _ _ _ hr).mono ?_
  rintro e w1 ⟨rfl,rfl⟩
  go_wp2_with fail
  refine (Ybs _ _ _ _ hr).mono ?_
  rintro e w1 ⟨rfl,rfl⟩
  go_wp2_with fail
  refine (c1 _).mono ?_
  rintro e w1 ⟨rfl,hb1⟩
  go_wp2
  go_ret
  exact ⟨rfl,hr.below hb1,Yal hb1 _⟩
 | true=>
  by_cases hmn:m=n
  ·obtain rfl:=pK rfl hmn
   have d1:(m != n)=false:=by rw [hmn];simp
   have hz:=hgp rfl
   have hi:=hin rfl
   have e1:Yk2 s.data.toList p=p+gap p:=if_pos hz
   have K:=Lib.hid (Ycw (l:=s.data.toList) (p:=p+gap p) (n:=22) (by omega) (by omega))
   have T:Hid (Ycm s.data.toList (p+gap p) 22=p+gap p+22):=Lib.hid (by unfold Ycm;rw [K.out];rfl)
   clear pM pO pK hin hgp hmn hz hi
   go_enter Tryz.func117,Tryz.ntmps117
   go_wp2_with fail
   refine (Ydk _ _ _ _ hr).mono ?_
   rintro e w1 ⟨rfl,rfl⟩
   go_wp2_with fail
   refine (Ybs _ _ _ _ hr).mono ?_
   rintro e w1 ⟨rfl,rfl⟩
   go_wp2_with fail
   refine (c1 _).mono ?_
   rintro e w1 ⟨rfl,hb1⟩
   have hr1:=hr.below hb1
   have hg1:=Yal hb1 (some b)
   go_wp2_with fail
   refine (Yj9 _ _ _ _ hr1).mono ?_
   rintro e w2 ⟨rfl,hr2,hg2⟩
   rw [e1] at hr2
   have hg3:=Yao hg1 hg2
   clear hr hr1 hg1 hg2 hb1 e1
   go_wp2_with fail
   refine (Yci _ _ _ _ 22 hr2).mono ?_
   rintro e w3 ⟨rfl,hr3,hg4⟩
   rw [T.out] at hr3
   rw [K.out]
   go_wp2
   go_ret
   exact ⟨rfl,hr3,Yao hg3 hg4⟩
  ·obtain rfl:=pO rfl hmn
   have d1:(m != n)=true:=by rw [bne_iff_ne];exact hmn
   clear pM pO pK hin hgp hmn
   go_enter Tryz.func117,Tryz.ntmps117
   go_wp2_with fail
   refine (Ydk _ _ _ _ hr).mono ?_
   rintro e w1 ⟨rfl,rfl⟩
   go_wp2_with fail
   refine (Ybs _ _ _ _ hr).mono ?_
   rintro e w1 ⟨rfl,rfl⟩
   go_wp2_with fail
   refine (c1 _).mono ?_
   rintro e w1 ⟨rfl,hb1⟩
   go_wp2
   go_ret
   exact ⟨rfl,hr.below hb1,Yal hb1 _⟩
def Ybm (l:List UInt8) (p:Nat):(Int×Int×Int)×Nat:=
 if 8*l.length<p+7 then ((0,0,2),p) else if Ya0 l (p+2) 5=0 then ((0,0,9),p+7)
 else ((((Ya0 l p 2:Nat):Int),((Ya0 l (p+2) 5:Nat):Int),0),p+7)
theorem Ykx {l:List UInt8} {p:Nat} (h:8*l.length<p+7):Ybm l p=((0,0,2),p):=if_pos h
theorem Yk1 {l:List UInt8} {p:Nat} (h:p+7≤8*l.length) (h1:Ya0 l (p+2) 5=0):Ybm l p=((0,0,9),p+7):=by
 unfold Ybm;rw [if_neg (by omega),if_pos h1]
theorem Yrz {l:List UInt8} {p:Nat} (h:p+7≤8*l.length) (h1:Ya0 l (p+2) 5≠0):Ybm l p=((((Ya0 l p 2:Nat):Int),((Ya0 l (p+2) 5:Nat):Int),0),p+7):=by
 unfold Ybm;rw [if_neg (by omega),if_neg h1]
set_option maxHeartbeats 1000000 in
theorem Yv3 (w:World) (b:Nat) (s:ByteArray) (p:Nat) (hr:Ybb w b s p):
  Calls Tryz.prog 118 #[.pointer (some ⟨b,0,none⟩)] w fun e w'=> e = .returned (.tuple #[.int .i64 (Ybm s.data.toList p).1.1,.int .i64 (Ybm s.data.toList p).1.2.1,.int .i64 (Ybm s.data.toList p).1.2.2])∧Ybb w' b s (Ybm s.data.toList p).2∧w.grownBy w' (some b):=by
 have hsl:s.data.toList.length=s.size:=rfl
 have hp:=hr.2.1
 by_cases h:8*s.size<p+7
 ·have K:=Lib.hid (Ybi (l:=s.data.toList) (p:=p) (n:=7) (by omega) (by omega))
  have T:Hid (Ycm s.data.toList p 7=p):=Lib.hid (by unfold Ycm;rw [K.out];rfl)
  rw [Ykx (by omega)]
  clear h hp hsl
  go_enter Tryz.func118,Tryz.ntmps118
  go_wp2_with fail
  refine (Yci _ _ _ _ 7 hr).mono ?_
  rintro e w3 ⟨rfl,hr3,hg4⟩
  rw [T.out] at hr3
  rw [K.out]
  go_wp2
  go_ret3
  exact ⟨rfl,hr3,hg4⟩
 ·have K:=Lib.hid (Ycw (l:=s.data.toList) (p:=p) (n:=7) (by omega) (by omega))
  have T:Hid (Ycm s.data.toList p 7=p+7):=Lib.hid (by unfold Ycm;rw [K.out];rfl)
  obtain ⟨k1,k2⟩:=Yu4 s.data.toList p (by omega)
  have hlt:=Ybr s.data.toList p 7
  have fQ:=fun h1=> Yk1 (l:=s.data.toList) (p:=p) (by omega) h1
  have fK:=fun h1=> Yrz (l:=s.data.toList) (p:=p) (by omega) h1
  rw [show (7:Int).toNat=7 from rfl] at K
  obtain ⟨y,hy⟩:∃y,Ya0 s.data.toList p 7=y:=⟨_,rfl⟩
  rw [hy] at K k1 k2 hlt
  rw [←k1,←k2] at fK
  rw [←k2] at fQ
  clear h hp hsl hy k1 k2
  have S5:=Lib.hid (Y8j y)
  have L5:=Lib.hid (low5 y)
  by_cases h1:y%32=0
  ·have d1:decide (bits .and .i64 (y:Int) 31<1)=true:=by rw [L5.out];simp;omega
   rw [fQ h1]
   clear fQ fK
   go_enter Tryz.func118,Tryz.ntmps118
   go_wp2_with fail
   refine (Yci _ _ _ _ 7 hr).mono ?_
   rintro e w3 ⟨rfl,hr3,hg4⟩
   rw [T.out] at hr3
   rw [K.out]
   go_wp2
   go_ret3
   exact ⟨rfl,hr3,hg4⟩
  ·have d1:decide (bits .and .i64 (y:Int) 31<1)=false:=by rw [L5.out];simp;omega
   rw [fK h1]
   have e1:(y:Int) / 32=((y / 32:Nat):Int):=S5.out
   have E1:=Lib.hid e1
   clear fQ fK e1 S5
   go_enter Tryz.func118,Tryz.ntmps118
   go_wp2_with fail
   refine (Yci _ _ _ _ 7 hr).mono ?_
   rintro e w3 ⟨rfl,hr3,hg4⟩
   rw [T.out] at hr3
   rw [K.out]
   go_wp2
   go_ret3
   rw [←L5.out,←E1.out]
   exact ⟨rfl,hr3,hg4⟩
theorem Y3v (l:List UInt8) (p:Nat) (n:Int):
  hdk l p n=if (Yep l p n).1=0 then (if (Ybm l (Yep l p n).2).1.2.2=0 then ((Ybm l (Yep l p n).2).1.1,(Ybm l (Yep l p n).2).1.2.1,(Ybm l (Yep l p n).2).2,0) else (0,0,p,(Ybm l (Yep l p n).2).1.2.2)) else (0,0,p,(Yep l p n).1):=by
 by_cases h:(Ya4 l p).2=false
 ·rw [Yss h,Yqk h];rfl
 ·have h':(Ya4 l p).2=true:=by simpa using h
  by_cases h1:(Ya4 l p).1=n
  ·rw [Y3s h' h1]
   show _=if (Ybm l (p+gap p+22)).1.2.2=0 then _ else _
   by_cases h2:8*l.length<p+gap p+22+7
   ·rw [Ynk h' h1 h2,Ykx h2];rfl
   ·by_cases h3:Ya0 l (p+gap p+22+2) 5=0
    ·rw [Ymv h' h1 (by omega) h3,Yk1 (by omega) h3];rfl
    ·rw [Y4q h' h1 (by omega) h3,Yrz (by omega) h3];rfl
  ·rw [Yo8 h' h1,Ynw h' h1];rfl
theorem Yqd {l:List UInt8} {p:Nat} (h:(Ybm l p).1.2.2≠0):(Ybm l p).1.1=0∧(Ybm l p).1.2.1=0:=by
 revert h
 unfold Ybm
 split
 ·exact fun _=> ⟨rfl,rfl⟩
 ·split
  ·exact fun _=> ⟨rfl,rfl⟩
  ·exact fun h=> absurd rfl h
def Qap (s:ByteArray) (p:Nat) (n:Int) (b:Nat) (w:World) (e:Ending) (w':World):Prop:=
 e = .returned (.tuple #[.int .i64 (hdk s.data.toList p n).1,.int .i64 (hdk s.data.toList p n).2.1,.int .i64 (hdk s.data.toList p n).2.2.2])∧Ybb w' b s (hdk s.data.toList p n).2.2.1∧w.grownBy w' (some b)
set_option maxHeartbeats 1000000 in
theorem Yzn (w:World) (b:Nat) (s:ByteArray) (p:Nat) (n:Int) (hr:Ybb w b s p) (hs:s.size≤1099511627776):
  Calls Tryz.prog 90 #[.pointer (some ⟨b,0,none⟩),.int .i64 n] w (Qap s p n b w):=by
 have c1:=Y3i w b s p n hr hs
 have c2:=fun w q hr=> Yv3 w b s q hr
 have hd:=Y3v s.data.toList p n
 have hp:=hr.2.1
 unfold Qap
 obtain ⟨P,hP⟩:∃P,hdk s.data.toList p n=P:=⟨_,rfl⟩
 rw [hP] at hd ⊢
 clear hP
 generalize Yep s.data.toList p n=Q at c1 hd
 obtain ⟨x,q⟩:=Q
 dsimp only at c1 hd
 by_cases hx:x=0
 ·subst hx
  rw [if_pos rfl] at hd
  have c3:=fun w hr=> c2 w q hr
  have hn:=fun h=> Yqd (l:=s.data.toList) (p:=q) h
  generalize Ybm s.data.toList q=F at c3 hd hn
  obtain ⟨⟨i,k,f⟩,z⟩:=F
  dsimp only at c3 hd hn
  clear c2
  by_cases hf:f=0
  ·subst hf
   rw [if_pos rfl] at hd
   subst hd
   clear hn
   go_enter Tryz.func90,Tryz.ntmps90
   go_wp2_with fail
   refine (Ybs _ _ _ _ hr).mono ?_
   rintro e w1 ⟨rfl,rfl⟩
   go_wp2_with fail
   refine c1.mono ?_
   rintro e w1 ⟨rfl,hr1,hg1⟩
   go_wp2_with fail
   refine (c3 _ hr1).mono ?_
   rintro e w2 ⟨rfl,hr2,hg2⟩
   go_wp2
   go_ret3
   exact ⟨rfl,hr2,Yao hg1 hg2⟩
  ·obtain ⟨rfl,rfl⟩:=hn hf
   rw [if_neg hf] at hd
   subst hd
   have d1:(f != 0)=true:=by rw [bne_iff_ne];exact hf
   clear hn hf
   go_enter Tryz.func90,Tryz.ntmps90
   go_wp2_with fail
   refine (Ybs _ _ _ _ hr).mono ?_
   rintro e w1 ⟨rfl,rfl⟩
   go_wp2_with fail
   refine c1.mono ?_
   rintro e w1 ⟨rfl,hr1,hg1⟩
   go_wp2_with fail
   refine (c3 _ hr1).mono ?_
   rintro e w2 ⟨rfl,hr2,hg2⟩
   have hg3:=Yao hg1 hg2
   go_wp2_with fail
   refine (Ybk _ _ _ _ (p:Int) hr2 (by omega) (by omega)).mono ?_
   rintro e w3 ⟨rfl,hr3,hg4⟩
   rw [Int.toNat_natCast] at hr3
   go_wp2
   go_ret3
   exact ⟨rfl,hr3,Yao hg3 hg4⟩
 ·rw [if_neg hx] at hd
  subst hd
  have d1:(x != 0)=true:=by rw [bne_iff_ne];exact hx
  have d2:(x==0)=false:=by rw [beq_eq_false_iff_ne];exact hx
  clear hx c2
  go_enter Tryz.func90,Tryz.ntmps90
  go_wp2_with fail
  refine (Ybs _ _ _ _ hr).mono ?_
  rintro e w1 ⟨rfl,rfl⟩
  go_wp2_with fail
  refine c1.mono ?_
  rintro e w1 ⟨rfl,hr1,hg1⟩
  go_wp2_with fail
  refine (Ybk _ _ _ _ (p:Int) hr1 (by omega) (by omega)).mono ?_
  rintro e w3 ⟨rfl,hr3,hg4⟩
  rw [Int.toNat_natCast] at hr3
  go_wp2
  go_ret3
  exact ⟨rfl,hr3,Yao hg1 hg4⟩
theorem Ykn (l:List UInt8) (p:Nat) (h:p+22≤8*l.length):Ya0 l p 22 / 32=Ya0 l p 17∧Ya0 l p 22%32=Ya0 l (p+17) 5:=by
 have e:=Yee l p 17 5 (by omega)
 have h5:=Ybr l (p+17) 5
 have e2:Ya0 l p 22=Ya0 l p (17+5):=rfl
 omega
theorem Y61 (l:List UInt8) (p:Nat) (h:p+22≤8*l.length):((l |> Yac).drop p).take 17=Ybg (Ya0 l p 17) 17:=by
 have hr:Yba (((Yac l).drop p).take 17)=true:=Ya9 _ _ (Yax _ _ (Ybn l))
 have hl:(((Yac l).drop p).take 17).length=17:=by
  have:=Yah l
  rw [List.length_take,List.length_drop];omega
 have e:=Ygv _ hr
 rw [hl] at e
 exact e.symm
theorem Y79 (l:List UInt8) (p:Nat) (h:p+22≤8*l.length) (h1:Ya0 l p 22 / 32=1):
  (!((Yac l).drop p).take 17 == [48,48,48,48,48,48,48,48,48,48,48,48,48,48,48,48,49])=false:=by
 rw [(Ykn l p h).1] at h1
 rw [show ((Yac l).drop p).take 17=Ybg (Ya0 l p 17) 17 from Y61 l p h,h1]
 rfl
theorem Y8u (l:List UInt8) (p:Nat) (h:p+22≤8*l.length) (h1:Ya0 l p 22 / 32≠1):
  (!((Yac l).drop p).take 17 == [48,48,48,48,48,48,48,48,48,48,48,48,48,48,48,48,49])=true:=by
 rw [Bool.not_eq_true',beq_eq_false_iff_ne]
 intro he
 apply h1
 rw [(Ykn l p h).1]
 unfold Ya0
 rw [he]
 rfl
set_option maxHeartbeats 1000000 in
theorem Ypw (s:ByteArray) (bit:Int) (hs:s.size≤1099511627776) (w:World):
  Calls Tryz.prog 36 #[.string ⟨(Yac s.data.toList).toArray⟩,.int .i64 bit] w fun e w'=> e = .returned (.tuple #[.int .i64 (Ya2 s.data.toList bit).1,.int .i64 (Ya2 s.data.toList bit).2])∧w=w':=by
 have hsl:s.data.toList.length=s.size:=rfl
 have hsz:=Ye3 s
 by_cases h1:bit<0
 ·have A:=Lib.hid (Yjn (l:=s.data.toList) (bit:=bit) (.inl h1))
  go_enter Tryz.func36,Tryz.ntmps36
  go_wp2
  go_ret2
  exact ⟨Ydq A.out,rfl⟩
 ·have d1:decide (bit<0)=false:=by simpa using h1
  by_cases h2:8*(s.size:Int)<bit
  ·have A:=Lib.hid (Yjn (l:=s.data.toList) (bit:=bit) (.inr (by rw [hsl];exact h2)))
   have Z:=Lib.hid hsz
   generalize (⟨(Yac s.data.toList).toArray⟩:ByteArray)=S at Z ⊢
   have hz:=Z.out
   have d2:decide ((S.size:Int)<bit)=true:=by simp;omega
   clear hsz Z
   go_enter Tryz.func36,Tryz.ntmps36
   go_wp2
   go_ret2
   exact ⟨Ydq A.out,rfl⟩
  ·obtain ⟨p,rfl⟩:=Int.eq_ofNat_of_zero_le (by omega:0≤bit)
   have hp:p≤8*s.size:=by omega
   clear h1 h2
   by_cases h3:8*s.size<p+22
   ·have A:=Lib.hid (Yfq (l:=s.data.toList) (p:=p) (by rw [hsl];exact hp) (by rw [hsl];exact h3))
    have Z:=Lib.hid hsz
    generalize (⟨(Yac s.data.toList).toArray⟩:ByteArray)=S at Z ⊢
    have hz:=Z.out
    have d2:decide ((S.size:Int)<(p:Int))=false:=by simp;omega
    have d3:decide ((S.size:Int)-p<22)=true:=by simp;omega
    clear hsz Z
    go_enter Tryz.func36,Tryz.ntmps36
    go_wp2
    go_ret2
    exact ⟨Ydq A.out,rfl⟩
   ·have A:=Lib.hid (Ymd (l:=s.data.toList) (p:=p) (by rw [hsl];omega))
    have hcut:=Yh0 s p 17
    have hcut2:=Yh0 s (p+17) 5
    generalize (⟨(Yac s.data.toList).toArray⟩:ByteArray)=S at hsz hcut hcut2 ⊢
    have d2:decide ((S.size:Int)<(p:Int))=false:=by simp;omega
    have d3:decide ((S.size:Int)-p<22)=false:=by simp;omega
    have hin:p+22≤8*s.data.toList.length:=by rw [hsl];omega
    by_cases h4:Ya0 s.data.toList p 22 / 32=1
    ·have A2:=Lib.hid (A.out.trans (if_pos h4))
     have hy:=Y79 _ p hin h4
     have hrow:Yba (List.take 5 (List.drop (p+17) (Yac s.data.toList)))=true:=Ya9 _ _ (Yax _ _ (Ybn _))
     have hlen:(List.take 5 (List.drop (p+17) (Yac s.data.toList))).length≤32:=by rw [List.length_take];omega
     have hnum:num (List.take 5 (List.drop (p+17) (Yac s.data.toList)))=Ya0 s.data.toList p 22%32:=(Ykn _ p hin).2.symm
     have HR:=Lib.hid hrow
     have HL:=Lib.hid hlen
     have HN:=Lib.hid hnum
     clear hsl hin h4 hrow hlen hnum A
     go_enter Tryz.func36,Tryz.ntmps36
     go_wp2_with fail
     refine (Ycz ⟨(List.take 5 (List.drop (p+17) (Yac s.data.toList))).toArray⟩ (by rw [Yis];exact HL.out) HR.out _).mono ?_
     rintro e w1 ⟨rfl,rfl⟩
     rw [show (⟨(List.take 5 (List.drop (p+17) (Yac s.data.toList))).toArray⟩:ByteArray).data.toList=List.take 5 (List.drop (p+17) (Yac s.data.toList)) from rfl,HN.out]
     go_wp2
     go_ret2
     exact ⟨Ydq A2.out,rfl⟩
    ·have A2:=Lib.hid (A.out.trans (if_neg h4))
     have hy:=Y8u _ p hin h4
     clear hsl hin h4 A
     go_enter Tryz.func36,Tryz.ntmps36
     go_wp2
     go_ret2
     exact ⟨Ydq A2.out,rfl⟩
theorem Ypx (s:ByteArray) (i:Nat) (h:i<(⟨(Yac s.data.toList).toArray⟩:ByteArray).size):(Yac s.data.toList)[i]? = some ((⟨(Yac s.data.toList).toArray⟩:ByteArray)[i]):=by
 rw [List.getElem?_eq_getElem (by rw [Yis] at h;exact h)]
 rfl
set_option maxHeartbeats 1000000 in
theorem Yph (s:ByteArray) (bit:Int) (hs:s.size≤1099511627776) (w:World):
  Calls Tryz.prog 18 #[.string ⟨(Yac s.data.toList).toArray⟩,.int .i64 bit] w fun e w'=> e = .returned (.tuple #[.int .i64 (Ya4 s.data.toList bit).1,.bool (Ya4 s.data.toList bit).2])∧w=w':=by
 have hsl:s.data.toList.length=s.size:=rfl
 have hsz:=Ye3 s
 have hbit:=Ypx s
 have hmat:=Ypw s
 by_cases h1:bit<0
 ·have A:=Lib.hid (Yjd (l:=s.data.toList) (bit:=bit) (.inl h1))
  clear hsz hbit hmat
  go_enter Tryz.func18,Tryz.ntmps18
  go_wp2
  go_ret2
  exact ⟨Ye7 A.out,rfl⟩
 ·have d1:decide (bit<0)=false:=by simpa using h1
  by_cases h2:8*(s.size:Int)<bit
  ·have A:=Lib.hid (Yjd (l:=s.data.toList) (bit:=bit) (.inr (by rw [hsl];exact h2)))
   have Z:=Lib.hid hsz
   clear hbit hmat
   generalize (⟨(Yac s.data.toList).toArray⟩:ByteArray)=S at Z ⊢
   have hz:=Z.out
   have d2:decide ((S.size:Int)<bit)=true:=by simp;omega
   clear hsz Z
   go_enter Tryz.func18,Tryz.ntmps18
   go_wp2
   go_ret2
   exact ⟨Ye7 A.out,rfl⟩
  ·obtain ⟨p,rfl⟩:=Int.eq_ofNat_of_zero_le (by omega:0≤bit)
   have hp:p≤8*s.size:=by omega
   have hgf:=Ylr hp
   have htn:=Ycx s.data.toList p (gap p) (by rw [hsl];exact hgf)
   have hyes:=fun h=> Yqn (l:=s.data.toList) (p:=p) (by rw [hsl];exact hp) h
   have hno:=fun h=> Ylh (l:=s.data.toList) (p:=p) (by rw [hsl];exact hp) h
   obtain ⟨g,hg⟩:∃g,gap p=g:=⟨_,rfl⟩
   have hgd:∀j:Nat,j≤g→(((p:Int)+j)%8 != 0)=decide (j<g):=by
    intro j hj
    rw [←hg] at hj ⊢
    unfold gap at hj ⊢
    rw [Bool.eq_iff_iff,bne_iff_ne,decide_eq_true_iff]
    omega
   rw [hg] at hgf htn hyes hno
   have GD:=Lib.hid hgd
   have TN:=Lib.hid htn
   have BT:=Lib.hid hbit
   have Y:=Lib.hid hyes
   have NO:=Lib.hid hno
   have MP:=Lib.hid hmat
   clear h1 h2 hgd htn hbit hyes hno hmat hg
   generalize (⟨(Yac s.data.toList).toArray⟩:ByteArray)=S at hsz BT MP ⊢
   have d2:decide ((S.size:Int)<(p:Int))=false:=by simp;omega
   go_enter Tryz.func18,Tryz.ntmps18
   go_wp2
   go_loop [1] (fun i=>∃j:Nat,j≤g∧i = .int .i64 ((p:Int)+j)∧Hid (∀k,k<j→(Yac s.data.toList)[p+k]? = some 48)) (fun i=> p+g-(intOf i).toNat)
   case atStart=> exact ⟨0,Nat.zero_le _,by simp,Lib.hid fun k hk=> absurd hk (Nat.not_lt_zero k)⟩
   case round=>
    obtain ⟨j,hj,rfl,H⟩:=hrel
    have hd:=GD.out j hj
    by_cases hlt:j<g
    ·have d0:(((p:Int)+j)%8 != 0)=true:=by rw [hd];simpa using hlt
     have hin:p+j<S.size:=by omega
     have hb:=BT.out (p+j) hin
     by_cases hc:S[p+j].toNat=48
     ·have c0:((S[p+j].toNat:Int) != 48)=false:=by rw [hc];rfl
      have he:S[p+j]=48:=UInt8.toNat_inj.1 hc
      rw [he] at hb
      have N:=Lib.hid (fun k (hk:k<j+1)=> (by
       rcases Nat.lt_or_ge k j with h | h
       ·exact H.out k h
       ·obtain rfl:k=j:=by omega
        exact hb:(Yac s.data.toList)[p+k]? = some 48))
      clear hb he hc hd
      go_wp2
      go_round
      case rel=> exact ⟨j+1,by omega,by go_num,N⟩
      case measure=> simp [intOf];omega
     ·have c0:((S[p+j].toNat:Int) != 48)=true:=by rw [bne_iff_ne];omega
      have A:=Lib.hid (NO.out fun h0=> by
       have:=TN.out.1 h0 j hlt
       rw [hb] at this
       injection this with this
       exact hc (by rw [this];rfl))
      clear hb hc hd
      go_wp2
      go_ret2
      exact ⟨Ye7 A.out,rfl⟩
    ·obtain rfl:j=g:=by omega
     have d0:(((p:Int)+j)%8 != 0)=false:=by rw [hd];simp
     have A:=Lib.hid (Y.out (TN.out.2 H.out))
     clear hd
     go_wp2_with fail
     rw [show (p:Int)+(j:Int)=((p+j:Nat):Int) by omega]
     refine (MP.out _ hs _).mono ?_
     rintro e w1 ⟨rfl,rfl⟩
     go_wp2
     go_ret2
     exact ⟨Ye7 A.out,rfl⟩
end Go.Proofs.YtpgdngijmihafaaGreatDoor
namespace Go.Proofs.YtpgdngijmihafaaGreatDoor
open Go.RowKit Go.Lib
theorem Ydu {fn:Func} {t u v x:Tmp} (h:fn.results = #[.tmp t,.tmp u,.tmp v,.tmp x]) (tmps:Array Value) (P:Program) (w:World):
  (results fn tmps).run P w = .ok (.tuple #[tmps.getD t undef,tmps.getD u undef,tmps.getD v undef,tmps.getD x undef]) w:=by
 simp [results,h]
set_option maxHeartbeats 2000000 in
theorem Yys (s:ByteArray) (p:Nat) (n:Int) (hp:p≤8*s.size) (hs:s.size≤1099511627776) (w:World):
  Calls Tryz.prog 19 #[.string ⟨(Yac s.data.toList).toArray⟩,.int .i64 (p:Int),.int .i64 n] w fun e w'=> e = .returned (.tuple #[.int .i64 (hdk s.data.toList p n).1,.int .i64 (hdk s.data.toList p n).2.1,.int .i64 ((hdk s.data.toList p n).2.2.1:Int),.int .i64 (hdk s.data.toList p n).2.2.2])∧w=w':=by
 have c1:=fun w=> Yph s (p:Int) hs w
 have hsl:s.data.toList.length=s.size:=rfl
 have hsz:=Ye3 s
 have hcut:=Yh0 s (p+gap p+22) 2
 have hcut2:=Yh0 s (p+gap p+22+2) 5
 have n1:∀w,Calls Tryz.prog 37 #[.string ⟨(((Yac s.data.toList).drop (p+gap p+22)).take 2).toArray⟩] w fun e w'=> e = .returned (.int .i64 (Ya0 s.data.toList (p+gap p+22) 2:Nat))∧w=w':=fun w=>
  Ycz ⟨(((Yac s.data.toList).drop (p+gap p+22)).take 2).toArray⟩ (by rw [Yis,List.length_take];omega) (Ya9 _ _ (Yax _ _ (Ybn _))) w
 have n2:∀w,Calls Tryz.prog 37 #[.string ⟨(((Yac s.data.toList).drop (p+gap p+22+2)).take 5).toArray⟩] w fun e w'=> e = .returned (.int .i64 (Ya0 s.data.toList (p+gap p+22+2) 5:Nat))∧w=w':=fun w=>
  Ycz ⟨(((Yac s.data.toList).drop (p+gap p+22+2)).take 5).toArray⟩ (by rw [Yis,List.length_take];omega) (Ya9 _ _ (Yax _ _ (Ybn _))) w
 have hM:=fun h=> Yqk (l:=s.data.toList) (p:=p) (n:=n) h
 have hO:=fun h h1=> Ynw (l:=s.data.toList) (p:=p) (n:=n) h h1
 have hS:=fun h h1 h2=> Ynk (l:=s.data.toList) (p:=p) (n:=n) h h1 h2
 have hQ:=fun h h1 h2 h3=> Ymv (l:=s.data.toList) (p:=p) (n:=n) h h1 h2 h3
 have hK:=fun h h1 h2 h3=> Y4q (l:=s.data.toList) (p:=p) (n:=n) h h1 h2 h3
 rw [hsl] at hS hQ hK
 obtain ⟨H,hH⟩:∃H,hdk s.data.toList p n=H:=⟨_,rfl⟩
 rw [hH] at hM hO hS hQ hK ⊢
 obtain ⟨m,hm⟩:∃m,(Ya4 s.data.toList p).1=m:=⟨_,rfl⟩
 obtain ⟨ok,hok⟩:∃ok,(Ya4 s.data.toList p).2=ok:=⟨_,rfl⟩
 rw [hm,hok] at c1
 rw [hok] at hM hO hS hQ hK
 rw [hm] at hO hS hQ hK
 have hg:=Y8c p
 have hgd:∀j:Nat,j≤gap p→(((p:Int)+j)%8 != 0)=decide (j<gap p):=by
  intro j hj
  unfold gap at hj ⊢
  rw [Bool.eq_iff_iff,bne_iff_ne,decide_eq_true_iff]
  omega
 generalize (⟨(((Yac s.data.toList).drop (p+gap p+22)).take 2).toArray⟩:ByteArray)=C1 at hcut n1
 generalize (⟨(((Yac s.data.toList).drop (p+gap p+22+2)).take 5).toArray⟩:ByteArray)=C2 at hcut2 n2
 generalize Ya0 s.data.toList (p+gap p+22) 2=y1 at n1 hK
 generalize Ya0 s.data.toList (p+gap p+22+2) 5=y2 at n2 hQ hK
 generalize gap p=g at *
 generalize (⟨(Yac s.data.toList).toArray⟩:ByteArray)=S at c1 hsz hcut hcut2 ⊢
 clear hH hm hok hsl
 have GD:=Lib.hid hgd
 clear hgd
 cases ok with
 | false=>
  obtain rfl:=hM rfl
  clear hM hO hS hQ hK n1 n2 hcut hcut2
  go_enter Tryz.func19,Tryz.ntmps19
  go_wp2_with fail
  refine (c1 _).mono ?_
  rintro e w1 ⟨rfl,rfl⟩
  go_wp2
  exact bodyPost_ret (Ydu rfl _ _ _) rfl ⟨rfl,rfl⟩
 | true=>
  by_cases hmn:m=n
  ·subst hmn
   have S1:=Lib.hid fun h2=> hS rfl rfl h2
   have Q1:=Lib.hid fun h2 h3=> hQ rfl rfl h2 h3
   have K1:=Lib.hid fun h2 h3=> hK rfl rfl h2 h3
   have d1:(m != m)=false:=by simp
   clear hM hO hS hQ hK
   go_enter Tryz.func19,Tryz.ntmps19
   go_wp2_with fail
   refine (c1 _).mono ?_
   rintro e w1 ⟨rfl,rfl⟩
   go_wp2
   go_loop [12] (fun i=>∃j:Nat,j≤g∧i = .int .i64 ((p:Int)+j)) (fun i=> p+g-(intOf i).toNat)
   case atStart=> exact ⟨0,Nat.zero_le _,by simp⟩
   case round=>
    obtain ⟨j,hj,rfl⟩:=hrel
    have hd:=GD.out j hj
    by_cases hlt:j<g
    ·have d0:(((p:Int)+j)%8 != 0)=true:=by rw [hd];simpa using hlt
     clear hd
     go_wp2
     go_round
     case rel=> exact ⟨j+1,by omega,by go_num⟩
     case measure=> simp [intOf];omega
    ·obtain rfl:j=g:=by omega
     have d0:(((p:Int)+j)%8 != 0)=false:=by rw [hd];simp
     clear hd
     rw [show (p:Int)+(j:Int)=((p+j:Nat):Int) by omega] at d0 ⊢
     by_cases h2:8*s.size<p+j+22+7
     ·obtain rfl:=S1.out h2
      have d2:decide ((S.size:Int)-(((p+j:Nat):Int)+22)<7)=true:=by simp;omega
      clear S1 Q1 K1 n1 n2 hcut hcut2
      go_wp2
      exact bodyPost_ret (Ydu rfl _ _ _) rfl ⟨rfl,rfl⟩
     ·have d2:decide ((S.size:Int)-(((p+j:Nat):Int)+22)<7)=false:=by simp;omega
      by_cases h3:y2=0
      ·obtain rfl:=Q1.out (by omega) h3
       have d3:((y2:Int)==0)=true:=by rw [h3];rfl
       clear S1 Q1 K1
       go_wp2_with fail
       refine (n2 _).mono ?_
       rintro e w1 ⟨rfl,rfl⟩
       go_wp2
       exact bodyPost_ret (Ydu rfl _ _ _) rfl ⟨rfl,rfl⟩
      ·obtain rfl:=K1.out (by omega) h3
       have d3:((y2:Int)==0)=false:=by rw [beq_eq_false_iff_ne];omega
       clear S1 Q1 K1
       go_wp2_with fail
       refine (n2 _).mono ?_
       rintro e w1 ⟨rfl,rfl⟩
       go_wp2_with fail
       refine (n1 _).mono ?_
       rintro e w1 ⟨rfl,rfl⟩
       go_wp2
       exact bodyPost_ret (Ydu rfl _ _ _) rfl ⟨rfl,rfl⟩
  ·obtain rfl:=hO rfl hmn
   have d1:(m != n)=true:=by rw [bne_iff_ne];exact hmn
   clear hM hO hS hQ hK n1 n2 hcut hcut2 hmn
   go_enter Tryz.func19,Tryz.ntmps19
   go_wp2_with fail
   refine (c1 _).mono ?_
   rintro e w1 ⟨rfl,rfl⟩
   go_wp2
   exact bodyPost_ret (Ydu rfl _ _ _) rfl ⟨rfl,rfl⟩
end Go.Proofs.YtpgdngijmihafaaGreatDoor