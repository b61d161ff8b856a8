/- Texts that SheetinMay's proof stands on, part 14 of 52. No condition of its own. -/
import Derived.Test.YtpgdngijmihafaaGreatDoorSheetinMayMf
import Derived.Test.YtpgdngijmihafaaGreatDoorSheetinMayMm
import Derived.Deep.RegionLaw
import Derived.Laws.CopyOwn
import Derived.WalkMore
namespace Go.Proofs.YtpgdngijmihafaaGreatDoor
open Go.RowKit
set_option maxHeartbeats 1000000 in
theorem Ycr (w:World) (B b:Nat) (r:List UInt8) (v n:Int) (hw:Yed w B b r) (h2:v≤9223372036854775807) (hf:Ycz v n=true) (hn:r.length+32≤1099511627776) (hB:B≤w.heap.size):
  Calls Tryz.prog 74 #[.pointer (some ⟨b,0,none⟩),.int .i64 v,.int .i64 n] w fun e w'=> e = .returned (.int .i64 0)∧Yed w' B b (r++Yau v.toNat n.toNat)∧w.grownBy w' (some b):=by
 have hrow:Yax (Yau v.toNat n.toNat)=true:=Yh8 _ _
 have hlen:(Yau v.toNat n.toNat).length≤32:=by rw [Yao];have:=(Ymy hf).2.1;omega
 have HR:=Lib.hid hrow
 have HF:=Lib.hid hf
 clear hrow hf
 go_enter Tryz.func74,Tryz.ntmps74
 go_wp2_with fail
 refine (Ykc v n _ h2 HF.out).mono ?_
 rintro e w1 ⟨rfl,hb⟩
 have hw1:=hw.below hb
 have hg1:w.grownBy w1 (some b):=⟨hb.os,hb.tape,hb.output,hb.size,fun k hk _=> hb.block k hk⟩
 have hsz:=hb.size
 clear hb
 go_wp2_with fail
 refine (Yu4 _ B b r _ hw1 HR.out (by rw [Y9t];omega) (by omega)).mono ?_
 rintro e w2 ⟨rfl,hw2,hg2⟩
 go_wp2
 go_ret
 exact ⟨rfl,hw2,Yad hg1 hg2⟩
theorem Y7y (y:Nat):(y:Int) / 2^5=((y / 32:Nat):Int):=by simp
theorem low5 (y:Nat):bits .and .i64 (y:Int) 31=((y%32:Nat):Int):=by
 have:=Ye8 (y:Int) 5 (by omega)
 rw [show (2:Int)^5-1=31 from rfl] at this
 rw [this]
 simp
theorem Yh4 {l:List UInt8} {bit:Int} {v c:Int} (h:Ybj l bit=(v,c)) {k k':IntKind}:Ending.returned (.tuple #[.int k v,.int k' c]) = .returned (.tuple #[.int k (Ybj l bit).1,.int k' (Ybj l bit).2]):=by rw [h]
set_option maxHeartbeats 1000000 in
theorem Yvy (w:World) (s:ByteArray) (bit:Int) (hs:s.size≤1099511627776):
  Calls Tryz.prog 114 #[.string s,.int .i64 bit] w fun e w'=> e = .returned (.tuple #[.int .i64 (Ybj s.data.toList bit).1,.int .i64 (Ybj s.data.toList bit).2])∧Below w.heap.size w w':=by
 have hsl:s.data.toList.length=s.size:=rfl
 obtain ⟨b,hb⟩:∃b,w.heap.size=b:=⟨_,rfl⟩
 have hr0:Ya5 (w.alloc (Ylm s 0)) b s 0:=Ya5.fresh hb (Nat.le_trans hs (by decide))
 have hb0:Below w.heap.size w (w.alloc (Ylm s 0)):=(Below.refl _ w).alloc (Nat.le_refl _) _
 have hz0:(w.alloc (Ylm s 0)).heap.size=b+1:=by simp;exact hb
 rw [hb] at hb0
 have HB:=Lib.hid hb
 rw [hb]
 by_cases h1:bit<0∨8*(s.size:Int)<bit
 ·have A:=Lib.hid (Yoy (l:=s.data.toList) (bit:=bit) (by rw [hsl];exact h1))
  go_enter Tryz.func114,Tryz.ntmps114
  go_wp2_with fail
  refine (Yc3 _ _).mono ?_
  rintro e w1 ⟨rfl,rfl⟩
  rw [HB.out]
  go_wp2_with fail
  refine (Ypb _ _ _ _ bit hr0 h1).mono ?_
  rintro e w1 ⟨rfl,rfl⟩
  clear h1
  go_wp2
  go_ret2
  exact ⟨Yh4 A.out,hb0⟩
 ·obtain ⟨p,rfl⟩:=Int.eq_ofNat_of_zero_le (by omega:0≤bit)
  have hp:p≤8*s.size:=by omega
  clear h1
  by_cases h2:8*s.size<p+22
  ·have A:=Lib.hid (Ygl (l:=s.data.toList) (p:=p) (by rw [hsl];exact hp) (by rw [hsl];exact h2))
   have K:=Lib.hid (Ybc (l:=s.data.toList) (p:=p) (n:=22) (by omega) (by rw [hsl];omega))
   go_enter Tryz.func114,Tryz.ntmps114
   go_wp2_with fail
   refine (Yc3 _ _).mono ?_
   rintro e w1 ⟨rfl,rfl⟩
   rw [HB.out]
   go_wp2_with fail
   refine (Ybh _ _ _ _ (p:Int) hr0 (by omega) (by omega)).mono ?_
   rintro e w1 ⟨rfl,hr1,hg1⟩
   rw [Int.toNat_natCast] at hr1
   have hb1:Below b w w1:=hb0.grown hg1 (by omega) (by intro k hk;injection hk with hk;omega)
   have hz1:=hg1.size
   go_wp2_with fail
   refine (Yb7 _ _ _ _ _ hr1).mono ?_
   rintro e w2 ⟨rfl,hr2,hg2⟩
   rw [K.out]
   have hb2:Below b w w2:=hb1.grown hg2 (by omega) (by intro k hk;injection hk with hk;omega)
   go_wp2
   go_ret2
   exact ⟨Yh4 A.out,hb2⟩
  ·have A:=Lib.hid (Yoz (l:=s.data.toList) (p:=p) (by rw [hsl];omega))
   have K:=Lib.hid (Yce (l:=s.data.toList) (p:=p) (n:=22) (by omega) (by rw [hsl];omega))
   have hlt:Ya1 s.data.toList p (22:Int).toNat<4194304:=Ybv s.data.toList p 22
   have hne:Ya1 s.data.toList p (22:Int).toNat=Ya1 s.data.toList p 22:=rfl
   rw [←hne] at A
   generalize Ya1 s.data.toList p (22:Int).toNat=y at A K hlt
   clear hne
   have S5:=Lib.hid (Y7y y)
   have L5:=Lib.hid (low5 y)
   go_enter Tryz.func114,Tryz.ntmps114
   go_wp2_with fail
   refine (Yc3 _ _).mono ?_
   rintro e w1 ⟨rfl,rfl⟩
   rw [HB.out]
   go_wp2_with fail
   refine (Ybh _ _ _ _ (p:Int) hr0 (by omega) (by omega)).mono ?_
   rintro e w1 ⟨rfl,hr1,hg1⟩
   rw [Int.toNat_natCast] at hr1
   have hb1:Below b w w1:=hb0.grown hg1 (by omega) (by intro k hk;injection hk with hk;omega)
   have hz1:=hg1.size
   go_wp2_with fail
   refine (Yb7 _ _ _ _ _ hr1).mono ?_
   rintro e w2 ⟨rfl,hr2,hg2⟩
   rw [K.out]
   have hb2:Below b w w2:=hb1.grown hg2 (by omega) (by intro k hk;injection hk with hk;omega)
   clear hr0 hb0 hz0 hr1 hg1 hr2 hg2 hb1 hz1 K
   by_cases h3:y / 32=1
   ·have d3:((y:Int) / 32 != 1)=false:=by rw [bne_eq_false_iff_eq];omega
    have A2:=Lib.hid (A.out.trans (if_pos h3))
    clear A h3
    go_wp2
    go_ret2
    rw [L5.out]
    exact ⟨Yh4 A2.out,hb2⟩
   ·have d3:((y:Int) / 32 != 1)=true:=by rw [bne_iff_ne];omega
    have A2:=Lib.hid (A.out.trans (if_neg h3))
    clear A h3
    go_wp2
    go_ret2
    exact ⟨Yh4 A2.out,hb2⟩
theorem Yla {l:List UInt8} {bit:Int} {v:Int} {c:Bool} (h:Ya3 l bit=(v,c)) {k:IntKind}:Ending.returned (.tuple #[.int k v,.bool c]) = .returned (.tuple #[.int k (Ya3 l bit).1,.bool (Ya3 l bit).2]):=by rw [h]
set_option maxHeartbeats 1000000 in
theorem Ym3 (w:World) (s:ByteArray) (bit:Int) (hs:s.size≤1099511627776):
  Calls Tryz.prog 116 #[.string s,.int .i64 bit] w fun e w'=> e = .returned (.tuple #[.int .i64 (Ya3 s.data.toList bit).1,.bool (Ya3 s.data.toList bit).2])∧Below w.heap.size w w':=by
 have hsl:s.data.toList.length=s.size:=rfl
 obtain ⟨b,hb⟩:∃b,w.heap.size=b:=⟨_,rfl⟩
 have hr0:Ya5 (w.alloc (Ylm s 0)) b s 0:=Ya5.fresh hb (Nat.le_trans hs (by decide))
 have hb0:Below w.heap.size w (w.alloc (Ylm s 0)):=(Below.refl _ w).alloc (Nat.le_refl _) _
 have hz0:(w.alloc (Ylm s 0)).heap.size=b+1:=by simp;exact hb
 rw [hb] at hb0
 have HB:=Lib.hid hb
 rw [hb]
 by_cases h1:bit<0∨8*(s.size:Int)<bit
 ·have A:=Lib.hid (Yo2 (l:=s.data.toList) (bit:=bit) (by rw [hsl];exact h1))
  go_enter Tryz.func116,Tryz.ntmps116
  go_wp2_with fail
  refine (Yc3 _ _).mono ?_
  rintro e w1 ⟨rfl,rfl⟩
  rw [HB.out]
  go_wp2_with fail
  refine (Ypb _ _ _ _ bit hr0 h1).mono ?_
  rintro e w1 ⟨rfl,rfl⟩
  clear h1
  go_wp2
  go_ret2
  exact ⟨Yla A.out,hb0⟩
 ·obtain ⟨p,rfl⟩:=Int.eq_ofNat_of_zero_le (by omega:0≤bit)
  have hp:p≤8*s.size:=by omega
  clear h1
  go_enter Tryz.func116,Tryz.ntmps116
  go_wp2_with fail
  refine (Yc3 _ _).mono ?_
  rintro e w1 ⟨rfl,rfl⟩
  rw [HB.out]
  go_wp2_with fail
  refine (Ybh _ _ _ _ (p:Int) hr0 (by omega) (by omega)).mono ?_
  rintro e w1 ⟨rfl,hr1,hg1⟩
  rw [Int.toNat_natCast] at hr1
  have hb1:Below b w w1:=hb0.grown hg1 (by omega) (by intro k hk;injection hk with hk;omega)
  have hz1:=hg1.size
  go_wp2_with fail
  refine (Yix _ _ _ _ hr1).mono ?_
  rintro e w2 ⟨rfl,hr2,hg2⟩
  have hb2:Below b w w2:=hb1.grown hg2 (by omega) (by intro k hk;injection hk with hk;omega)
  have hz2:=hg2.size
  have hz:b≤w2.heap.size:=by omega
  clear hr0 hb0 hz0 hr1 hg1 hg2 hb1 hz1 hz2
  by_cases h3:Ya1 s.data.toList p (gap p)=0
  ·have A:=Lib.hid (Yuc (l:=s.data.toList) (p:=p) (by rw [hsl];exact hp) h3)
   have e1:Yf2 s.data.toList p=(((gap p:Nat):Int),0):=if_pos h3
   have e2:Yjf s.data.toList p=p+gap p:=if_pos h3
   rw [e2] at hr2
   rw [e1]
   generalize p+gap p=q at A hr2
   generalize gap p=g
   clear h3 e1 e2
   go_wp2_with fail
   refine (Ybm _ _ _ _ hr2).mono ?_
   rintro e w3 ⟨rfl,rfl⟩
   go_wp2_with fail
   refine (Yvy _ _ _ hs).mono ?_
   rintro e w4 ⟨rfl,hb4⟩
   go_wp2
   go_ret2
   exact ⟨Yla A.out,hb2.trans (hb4.mono hz)⟩
  ·have A:=Lib.hid (Yo3 (l:=s.data.toList) (p:=p) (by rw [hsl];exact hp) h3)
   have e1:Yf2 s.data.toList p=(0,5):=if_neg h3
   rw [e1]
   clear h3 e1 hr2
   go_wp2
   go_ret2
   exact ⟨Yla A.out,hb2⟩
theorem Qba:∀n:Fin 32,bits .or .i64 32 ((n.val:Nat):Int)=((32+n.val:Nat):Int):=by decide +kernel
theorem Y1t (n:Nat) (h:n<32):Ycz ((32+n:Nat):Int) 22=true:=by
 unfold Ycz
 rw [decide_eq_true_iff]
 refine ⟨by omega,by omega,by omega,?_⟩
 show ((32+n:Nat):Int)<2^22
 omega
set_option maxHeartbeats 1000000 in
theorem Y1w (w:World) (B b:Nat) (r:List UInt8) (n:Nat) (h:n<32) (hw:Yed w B b r) (hn:r.length+40≤1099511627776) (hB:B≤w.heap.size):
  Calls Tryz.prog 73 #[.pointer (some ⟨b,0,none⟩),.int .i64 (n:Int)] w fun e w'=> e = .returned (.int .i64 0)∧Yed w' B b (r++List.replicate (gap r.length) 48++Ydl n)∧w.grownBy w' (some b):=by
 have O:Hid (bits .or .i64 32 (n:Int)=((32+n:Nat):Int)):=Lib.hid (Qba ⟨n,h⟩)
 have hf:=Y1t n h
 have F:=Lib.hid hf
 have G:=Lib.hid (Y1g r.length)
 have d1:decide ((n:Int)<0)=false:=by simp
 have d2:decide (31<(n:Int))=false:=by simp;omega
 have V:Hid (((32+n:Nat):Int)≤9223372036854775807):=Lib.hid (by omega)
 clear hf h
 go_enter Tryz.func73,Tryz.ntmps73
 go_wp2_with fail
 refine (Y1c _ B b r hw (by omega) hB).mono ?_
 rintro e w1 ⟨rfl,hw1,hg1⟩
 have hB1:B≤w1.heap.size:=Nat.le_trans hB hg1.size
 go_wp2_with fail
 rw [O.out]
 refine (Ycr _ B b _ _ _ hw1 V.out F.out (by have:=G.out;rw [List.length_append,List.length_replicate];omega) hB1).mono ?_
 rintro e w2 ⟨rfl,hw2,hg2⟩
 rw [Yx3] at hw2
 go_wp2
 go_ret
 exact ⟨rfl,hw2,Yad hg1 hg2⟩
theorem Yuu (l:List UInt8) (p:Nat) (h:p+7≤8*l.length):Ya1 l p 7 / 32=Ya1 l p 2∧Ya1 l p 7%32=Ya1 l (p+2) 5:=by
 have e:=Yec l p 2 5 (by omega)
 have h5:=Ybv l (p+2) 5
 have e2:Ya1 l p 7=Ya1 l p (2+5):=rfl
 omega
def Ydr (l:List UInt8) (p:Nat) (n:Int):Int×Nat:=
 if (Ya3 l p).2=false then (4,p) else if (Ya3 l p).1≠n then (10,p) else (0,p+gap p+22)
theorem Yr3 {l:List UInt8} {p:Nat} {n:Int} (h:(Ya3 l p).2=false):Ydr l p n=(4,p):=if_pos h
theorem Ym9 {l:List UInt8} {p:Nat} {n:Int} (h:(Ya3 l p).2=true) (h1:(Ya3 l p).1≠n):Ydr l p n=(10,p):=by
 unfold Ydr;rw [if_neg (by rw [h];decide),if_pos h1]
theorem Y2a {l:List UInt8} {p:Nat} {n:Int} (h:(Ya3 l p).2=true) (h1:(Ya3 l p).1=n):Ydr l p n=(0,p+gap p+22):=by
 unfold Ydr;rw [if_neg (by rw [h];decide),if_neg (fun k=> k h1)]
set_option maxHeartbeats 1000000 in
theorem Y19 (w:World) (b:Nat) (s:ByteArray) (p:Nat) (n:Int) (hr:Ya5 w b s p) (hs:s.size≤1099511627776):
  Calls Tryz.prog 117 #[.pointer (some ⟨b,0,none⟩),.int .i64 n] w fun e w'=> e = .returned (.int .i64 (Ydr s.data.toList p n).1)∧Ya5 w' b s (Ydr s.data.toList p n).2∧w.grownBy w' (some b):=by
 have c1:=fun w=> Ym3 w s (p:Int) hs
 have hsl:s.data.toList.length=s.size:=rfl
 have pM:=fun h=> Yr3 (l:=s.data.toList) (p:=p) (n:=n) h
 have pO:=fun h h1=> Ym9 (l:=s.data.toList) (p:=p) (n:=n) h h1
 have pK:=fun h h1=> Y2a (l:=s.data.toList) (p:=p) (n:=n) h h1
 have hin:=fun h=> Yud (l:=s.data.toList) (p:=p) h
 have hgp:=fun h=> Yv3 (l:=s.data.toList) (p:=p) h
 obtain ⟨m,hm⟩:∃m,(Ya3 s.data.toList p).1=m:=⟨_,rfl⟩
 obtain ⟨ok,hok⟩:∃ok,(Ya3 s.data.toList p).2=ok:=⟨_,rfl⟩
 rw [hm,hok] at c1
 rw [hok] at hin hgp pM pO pK
 rw [hm] at pO pK
 clear hm hok
 obtain ⟨P,hP⟩:∃P,Ydr s.data.toList p n=P:=⟨_,rfl⟩
 rw [hP] at pM pO pK ⊢
 clear hP
 cases ok with
 | false=>
  obtain rfl:=pM rfl
  clear pM pO pK hin hgp
  go_enter Tryz.func117,Tryz.ntmps117
  go_wp2_with fail
  refine (Ycu _ _ _ _ hr).mono ?_
  rintro e w1 ⟨rfl,rfl⟩
  go_wp2_with fail
  refine (Ybm _ _ _ _ hr).mono ?_
  rintro e w1 ⟨rfl,rfl⟩
  go_wp2_with fail
  refine (c1 _).mono ?_
  rintro e w1 ⟨rfl,hb1⟩
  go_wp2
  go_ret
  exact ⟨rfl,hr.below hb1,Yal hb1 _⟩
 | true=>
  by_cases hmn:m=n
  ·obtain rfl:=pK rfl hmn
   have d1:(m != n)=false:=by rw [hmn];simp
   have hz:=hgp rfl
   have hi:=hin rfl
   have e1:Yjf s.data.toList p=p+gap p:=if_pos hz
   have K:=Lib.hid (Yce (l:=s.data.toList) (p:=p+gap p) (n:=22) (by omega) (by omega))
   have T:Hid (Yb8 s.data.toList (p+gap p) 22=p+gap p+22):=Lib.hid (by unfold Yb8;rw [K.out];rfl)
   clear pM pO pK hin hgp hmn hz hi
   go_enter Tryz.func117,Tryz.ntmps117
   go_wp2_with fail
   refine (Ycu _ _ _ _ hr).mono ?_
   rintro e w1 ⟨rfl,rfl⟩
   go_wp2_with fail
   refine (Ybm _ _ _ _ hr).mono ?_
   rintro e w1 ⟨rfl,rfl⟩
   go_wp2_with fail
   refine (c1 _).mono ?_
   rintro e w1 ⟨rfl,hb1⟩
   have hr1:=hr.below hb1
   have hg1:=Yal hb1 (some b)
   go_wp2_with fail
   refine (Yix _ _ _ _ hr1).mono ?_
   rintro e w2 ⟨rfl,hr2,hg2⟩
   rw [e1] at hr2
   have hg3:=Yad hg1 hg2
   clear hr hr1 hg1 hg2 hb1 e1
   go_wp2_with fail
   refine (Yb7 _ _ _ _ 22 hr2).mono ?_
   rintro e w3 ⟨rfl,hr3,hg4⟩
   rw [T.out] at hr3
   rw [K.out]
   go_wp2
   go_ret
   exact ⟨rfl,hr3,Yad hg3 hg4⟩
  ·obtain rfl:=pO rfl hmn
   have d1:(m != n)=true:=by rw [bne_iff_ne];exact hmn
   clear pM pO pK hin hgp hmn
   go_enter Tryz.func117,Tryz.ntmps117
   go_wp2_with fail
   refine (Ycu _ _ _ _ hr).mono ?_
   rintro e w1 ⟨rfl,rfl⟩
   go_wp2_with fail
   refine (Ybm _ _ _ _ hr).mono ?_
   rintro e w1 ⟨rfl,rfl⟩
   go_wp2_with fail
   refine (c1 _).mono ?_
   rintro e w1 ⟨rfl,hb1⟩
   go_wp2
   go_ret
   exact ⟨rfl,hr.below hb1,Yal hb1 _⟩
def Ybi (l:List UInt8) (p:Nat):(Int×Int×Int)×Nat:=
 if 8*l.length<p+7 then ((0,0,2),p) else if Ya1 l (p+2) 5=0 then ((0,0,9),p+7)
 else ((((Ya1 l p 2:Nat):Int),((Ya1 l (p+2) 5:Nat):Int),0),p+7)
theorem Yje {l:List UInt8} {p:Nat} (h:8*l.length<p+7):Ybi l p=((0,0,2),p):=if_pos h
theorem Yjd {l:List UInt8} {p:Nat} (h:p+7≤8*l.length) (h1:Ya1 l (p+2) 5=0):Ybi l p=((0,0,9),p+7):=by
 unfold Ybi;rw [if_neg (by omega),if_pos h1]
theorem Yq9 {l:List UInt8} {p:Nat} (h:p+7≤8*l.length) (h1:Ya1 l (p+2) 5≠0):Ybi l p=((((Ya1 l p 2:Nat):Int),((Ya1 l (p+2) 5:Nat):Int),0),p+7):=by
 unfold Ybi;rw [if_neg (by omega),if_neg h1]
set_option maxHeartbeats 1000000 in
theorem Yty (w:World) (b:Nat) (s:ByteArray) (p:Nat) (hr:Ya5 w b s p):
  Calls Tryz.prog 118 #[.pointer (some ⟨b,0,none⟩)] w fun e w'=> e = .returned (.tuple #[.int .i64 (Ybi s.data.toList p).1.1,.int .i64 (Ybi s.data.toList p).1.2.1,.int .i64 (Ybi s.data.toList p).1.2.2])∧Ya5 w' b s (Ybi s.data.toList p).2∧w.grownBy w' (some b):=by
 have hsl:s.data.toList.length=s.size:=rfl
 have hp:=hr.2.1
 by_cases h:8*s.size<p+7
 ·have K:=Lib.hid (Ybc (l:=s.data.toList) (p:=p) (n:=7) (by omega) (by omega))
  have T:Hid (Yb8 s.data.toList p 7=p):=Lib.hid (by unfold Yb8;rw [K.out];rfl)
  rw [Yje (by omega)]
  clear h hp hsl
  go_enter Tryz.func118,Tryz.ntmps118
  go_wp2_with fail
  refine (Yb7 _ _ _ _ 7 hr).mono ?_
  rintro e w3 ⟨rfl,hr3,hg4⟩
  rw [T.out] at hr3
  rw [K.out]
  go_wp2
  go_ret3
  exact ⟨rfl,hr3,hg4⟩
 ·have K:=Lib.hid (Yce (l:=s.data.toList) (p:=p) (n:=7) (by omega) (by omega))
  have T:Hid (Yb8 s.data.toList p 7=p+7):=Lib.hid (by unfold Yb8;rw [K.out];rfl)
  obtain ⟨k1,k2⟩:=Yuu s.data.toList p (by omega)
  have hlt:=Ybv s.data.toList p 7
  have fQ:=fun h1=> Yjd (l:=s.data.toList) (p:=p) (by omega) h1
  have fK:=fun h1=> Yq9 (l:=s.data.toList) (p:=p) (by omega) h1
  rw [show (7:Int).toNat=7 from rfl] at K
  obtain ⟨y,hy⟩:∃y,Ya1 s.data.toList p 7=y:=⟨_,rfl⟩
  rw [hy] at K k1 k2 hlt
  rw [←k1,←k2] at fK
  rw [←k2] at fQ
  clear h hp hsl hy k1 k2
  have S5:=Lib.hid (Y7y y)
  have L5:=Lib.hid (low5 y)
  by_cases h1:y%32=0
  ·have d1:decide (bits .and .i64 (y:Int) 31<1)=true:=by rw [L5.out];simp;omega
   rw [fQ h1]
   clear fQ fK
   go_enter Tryz.func118,Tryz.ntmps118
   go_wp2_with fail
   refine (Yb7 _ _ _ _ 7 hr).mono ?_
   rintro e w3 ⟨rfl,hr3,hg4⟩
   rw [T.out] at hr3
   rw [K.out]
   go_wp2
   go_ret3
   exact ⟨rfl,hr3,hg4⟩
  ·have d1:decide (bits .and .i64 (y:Int) 31<1)=false:=by rw [L5.out];simp;omega
   rw [fK h1]
   have e1:(y:Int) / 32=((y / 32:Nat):Int):=S5.out
   have E1:=Lib.hid e1
   clear fQ fK e1 S5
   go_enter Tryz.func118,Tryz.ntmps118
   go_wp2_with fail
   refine (Yb7 _ _ _ _ 7 hr).mono ?_
   rintro e w3 ⟨rfl,hr3,hg4⟩
   rw [T.out] at hr3
   rw [K.out]
   go_wp2
   go_ret3
   rw [←L5.out,←E1.out]
   exact ⟨rfl,hr3,hg4⟩
theorem Y1i (l:List UInt8) (p:Nat) (n:Int):
  hdk l p n=if (Ydr l p n).1=0 then (if (Ybi l (Ydr l p n).2).1.2.2=0 then ((Ybi l (Ydr l p n).2).1.1,(Ybi l (Ydr l p n).2).1.2.1,(Ybi l (Ydr l p n).2).2,0) else (0,0,p,(Ybi l (Ydr l p n).2).1.2.2)) else (0,0,p,(Ydr l p n).1):=by
 by_cases h:(Ya3 l p).2=false
 ·rw [Yr3 h,Yvq h];rfl
 ·have h':(Ya3 l p).2=true:=by simpa using h
  by_cases h1:(Ya3 l p).1=n
  ·rw [Y2a h' h1]
   show _=if (Ybi l (p+gap p+22)).1.2.2=0 then _ else _
   by_cases h2:8*l.length<p+gap p+22+7
   ·rw [Yrk h' h1 h2,Yje h2];rfl
   ·by_cases h3:Ya1 l (p+gap p+22+2) 5=0
    ·rw [Yrj h' h1 (by omega) h3,Yjd (by omega) h3];rfl
    ·rw [Y7t h' h1 (by omega) h3,Yq9 (by omega) h3];rfl
  ·rw [Ym9 h' h1,Yri h' h1];rfl
theorem Yol {l:List UInt8} {p:Nat} (h:(Ybi l p).1.2.2≠0):(Ybi l p).1.1=0∧(Ybi l p).1.2.1=0:=by
 revert h
 unfold Ybi
 split
 ·exact fun _=> ⟨rfl,rfl⟩
 ·split
  ·exact fun _=> ⟨rfl,rfl⟩
  ·exact fun h=> absurd rfl h
def Y71 (s:ByteArray) (p:Nat) (n:Int) (b:Nat) (w:World) (e:Ending) (w':World):Prop:=
 e = .returned (.tuple #[.int .i64 (hdk s.data.toList p n).1,.int .i64 (hdk s.data.toList p n).2.1,.int .i64 (hdk s.data.toList p n).2.2.2])∧Ya5 w' b s (hdk s.data.toList p n).2.2.1∧w.grownBy w' (some b)
set_option maxHeartbeats 1000000 in
theorem Yxt (w:World) (b:Nat) (s:ByteArray) (p:Nat) (n:Int) (hr:Ya5 w b s p) (hs:s.size≤1099511627776):
  Calls Tryz.prog 90 #[.pointer (some ⟨b,0,none⟩),.int .i64 n] w (Y71 s p n b w):=by
 have c1:=Y19 w b s p n hr hs
 have c2:=fun w q hr=> Yty w b s q hr
 have hd:=Y1i s.data.toList p n
 have hp:=hr.2.1
 unfold Y71
 obtain ⟨P,hP⟩:∃P,hdk s.data.toList p n=P:=⟨_,rfl⟩
 rw [hP] at hd ⊢
 clear hP
 generalize Ydr s.data.toList p n=Q at c1 hd
 obtain ⟨x,q⟩:=Q
 dsimp only at c1 hd
 by_cases hx:x=0
 ·subst hx
  rw [if_pos rfl] at hd
  have c3:=fun w hr=> c2 w q hr
  have hn:=fun h=> Yol (l:=s.data.toList) (p:=q) h
  generalize Ybi s.data.toList q=F at c3 hd hn
  obtain ⟨⟨i,k,f⟩,z⟩:=F
  dsimp only at c3 hd hn
  clear c2
  by_cases hf:f=0
  ·subst hf
   rw [if_pos rfl] at hd
   subst hd
   clear hn
   go_enter Tryz.func90,Tryz.ntmps90
   go_wp2_with fail
   refine (Ybm _ _ _ _ hr).mono ?_
   rintro e w1 ⟨rfl,rfl⟩
   go_wp2_with fail
   refine c1.mono ?_
   rintro e w1 ⟨rfl,hr1,hg1⟩
   go_wp2_with fail
   refine (c3 _ hr1).mono ?_
   rintro e w2 ⟨rfl,hr2,hg2⟩
   go_wp2
   go_ret3
   exact ⟨rfl,hr2,Yad hg1 hg2⟩
  ·obtain ⟨rfl,rfl⟩:=hn hf
   rw [if_neg hf] at hd
   subst hd
   have d1:(f != 0)=true:=by rw [bne_iff_ne];exact hf
   clear hn hf
   go_enter Tryz.func90,Tryz.ntmps90
   go_wp2_with fail
   refine (Ybm _ _ _ _ hr).mono ?_
   rintro e w1 ⟨rfl,rfl⟩
   go_wp2_with fail
   refine c1.mono ?_
   rintro e w1 ⟨rfl,hr1,hg1⟩
   go_wp2_with fail
   refine (c3 _ hr1).mono ?_
   rintro e w2 ⟨rfl,hr2,hg2⟩
   have hg3:=Yad hg1 hg2
   go_wp2_with fail
   refine (Ybh _ _ _ _ (p:Int) hr2 (by omega) (by omega)).mono ?_
   rintro e w3 ⟨rfl,hr3,hg4⟩
   rw [Int.toNat_natCast] at hr3
   go_wp2
   go_ret3
   exact ⟨rfl,hr3,Yad hg3 hg4⟩
 ·rw [if_neg hx] at hd
  subst hd
  have d1:(x != 0)=true:=by rw [bne_iff_ne];exact hx
  have d2:(x==0)=false:=by rw [beq_eq_false_iff_ne];exact hx
  clear hx c2
  go_enter Tryz.func90,Tryz.ntmps90
  go_wp2_with fail
  refine (Ybm _ _ _ _ hr).mono ?_
  rintro e w1 ⟨rfl,rfl⟩
  go_wp2_with fail
  refine c1.mono ?_
  rintro e w1 ⟨rfl,hr1,hg1⟩
  go_wp2_with fail
  refine (Ybh _ _ _ _ (p:Int) hr1 (by omega) (by omega)).mono ?_
  rintro e w3 ⟨rfl,hr3,hg4⟩
  rw [Int.toNat_natCast] at hr3
  go_wp2
  go_ret3
  exact ⟨rfl,hr3,Yad hg1 hg4⟩
end Go.Proofs.YtpgdngijmihafaaGreatDoor