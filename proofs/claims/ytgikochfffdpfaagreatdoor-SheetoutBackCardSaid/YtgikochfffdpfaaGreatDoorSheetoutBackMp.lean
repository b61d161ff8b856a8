/- Texts that SheetoutBack's proof stands on, part 16 of 52. No condition of its own. -/
import Derived.Test.YtgikochfffdpfaaGreatDoorSheetoutBackMf
import Derived.Test.YtgikochfffdpfaaGreatDoorSheetoutBackMh
import Derived.Test.YtgikochfffdpfaaGreatDoorSheetoutBackMj
import Derived.Test.YtgikochfffdpfaaGreatDoorSheetoutBackMk
import Derived.Test.YtgikochfffdpfaaGreatDoorSheetoutBackMm
import Derived.Test.YtgikochfffdpfaaGreatDoorSheetoutBackMn
import Derived.Test.YtgikochfffdpfaaGreatDoorSheetoutBackMo
namespace Go.Proofs.YtgikochfffdpfaaGreatDoor
open Go.RowKit Go.Lib
def Yss (n:Int) (d:Nat):Bool:=decide (0≤n∧n<2^d)
set_option maxHeartbeats 1000000 in
theorem Yo8 (n:Int) (w:World):
  Calls Tryz.prog 84 #[.int .i64 n,.int .i64 8] w fun e w'=> e = .returned (.bool (Yss n 8))∧w=w':=by
 by_cases h0:0≤n
 ·have e:decide (n<256)=Yss n 8:=by
   unfold Yss
   rw [decide_eq_decide]
   omega
  go_enter Tryz.func84,Tryz.ntmps84
  go_wp2
  go_ret
  exact ⟨rfl,rfl⟩
 ·rw [show Yss n 8=false from decide_eq_false (by omega)]
  go_enter Tryz.func84,Tryz.ntmps84
  go_wp2
  go_ret
  exact ⟨rfl,rfl⟩
set_option maxHeartbeats 1000000 in
theorem Yy5 (n:Int) (w:World):
  Calls Tryz.prog 84 #[.int .i64 n,.int .i64 3] w fun e w'=> e = .returned (.bool (Yss n 3))∧w=w':=by
 by_cases h0:0≤n
 ·have e:decide (n<8)=Yss n 3:=by
   unfold Yss
   rw [decide_eq_decide]
   omega
  go_enter Tryz.func84,Tryz.ntmps84
  go_wp2
  go_ret
  exact ⟨rfl,rfl⟩
 ·rw [show Yss n 3=false from decide_eq_false (by omega)]
  go_enter Tryz.func84,Tryz.ntmps84
  go_wp2
  go_ret
  exact ⟨rfl,rfl⟩
set_option maxHeartbeats 1000000 in
theorem Ymj (k:Int) (w:World):
  Calls Tryz.prog 85 #[.int .i64 k] w fun e w'=> e = .returned (.bool (Ygw k))∧w=w':=by
 have c:=fun w=> Yqq k w
 go_enter Tryz.func85,Tryz.ntmps85
 go_wp2_with fail
 refine (c _).mono ?_
 rintro e w1 ⟨rfl,rfl⟩
 go_wp2
 go_ret
 exact ⟨rfl,rfl⟩
set_option maxHeartbeats 1000000 in
theorem Ymk (b:Bool) (w:World):
  Calls Tryz.prog 55 #[.bool b] w fun e w'=> e = .returned (.int .i64 (if b then 1 else 0))∧w=w':=by
 cases b with
 | true=>
  go_enter Tryz.func55,Tryz.ntmps55
  go_wp2
  go_ret
  exact ⟨rfl,rfl⟩
 | false=>
  go_enter Tryz.func55,Tryz.ntmps55
  go_wp2
  go_ret
  exact ⟨rfl,rfl⟩
def Yfn (l:List Int):Bool:=decide (l.length≤8)&&l.all Yg9
theorem Yww {l:List Int} (h:8<l.length):Yfn l=false:=by
 unfold Yfn
 rw [decide_eq_false (by omega)];rfl
theorem Qbh (x:Int):Yss x 8=Yg9 x:=by
 unfold Yss Yg9
 rw [decide_eq_decide]
 omega
theorem Yzd {l:List Int} (h8:¬ 8<l.length) (h:l.all Yg9=true):Yfn l=true:=by
 unfold Yfn
 rw [decide_eq_true (by omega),h];rfl
theorem Y4l {l:List Int} {j:Nat} (hj:j<l.length) (h:Yg9 (l.getD j 0)=false):Yfn l=false:=by
 unfold Yfn
 rw [Bool.and_eq_false_iff]
 right
 rw [List.all_eq_false]
 refine ⟨l[j],List.getElem_mem hj,?_⟩
 rw [show l.getD j 0=l[j] by simp [List.getD,hj]] at h
 rw [h];decide
theorem Y17 {l:List Int} {j:Nat} (hj:j<l.length) (h:(l.take j).all Yg9=true) (h2:Yg9 (l.getD j 0)=true):(l.take (j+1)).all Yg9=true:=by
 rw [show l.getD j 0=l[j] by simp [List.getD,hj]] at h2
 rw [List.take_succ_eq_append_getElem hj,List.all_append,h,List.all_cons,h2]
 rfl
set_option maxHeartbeats 1000000 in
theorem Y4e (p:Option Addr) (l:List Int) (cap:Nat) (hl:l.length≤maxLen) (w:World) (h:Ycl w p l):
  Calls Tryz.prog 86 #[.slice p l.length cap] w fun e w'=> e = .returned (.bool (Yfn l))∧w=w':=by
 unfold maxLen at hl
 by_cases h8:8<l.length
 ·have t0:decide (8<(l.length:Int))=true:=by simp;omega
  rw [Yww h8]
  generalize l.length=n at *
  clear h h8
  go_enter Tryz.func86,Tryz.ntmps86
  go_wp2
  go_ret
  exact ⟨rfl,rfl⟩
 ·have t0:decide (8<(l.length:Int))=false:=by simp;omega
  have yes:=fun h=> Yzd (l:=l) h8 h
  have no:=fun j hj h=> Y4l (l:=l) (j:=j) hj h
  obtain ⟨S,hS⟩:∃S,Yfn l=S:=⟨_,rfl⟩
  rw [hS] at yes no ⊢
  have YES:=Lib.hid yes
  have NO:=Lib.hid no
  have c:=fun n w=> Yo8 n w
  simp only [Qbh] at c
  have HL:=fun h0=> h.hold h0
  clear h h8 hS yes no
  go_enter Tryz.func86,Tryz.ntmps86
  go_wp2
  go_loop [10] (fun i=>∃j:Nat,j≤l.length∧i = .int .i64 j∧Hid ((l.take j).all Yg9=true)) (fun i=> l.length-(intOf i).toNat)
  case atStart=> exact ⟨0,Nat.zero_le _,rfl,Lib.hid rfl⟩
  case round=>
   obtain ⟨j,hj,rfl,ha⟩:=hrel
   by_cases hlt:j<l.length
   ·have t1:decide ((j:Int)<(l.length:Int))=true:=by simp;omega
    obtain ⟨b,o,rfl,hb,hc⟩:=HL (by omega)
    have k0:=hc w (Below.refl _ w) j hlt
    have hM:=fun h=> Y17 hlt ha.out h
    have hN:=NO.out j hlt
    clear hc HL YES NO
    generalize l.getD j 0=x at *
    cases hx:Yg9 x with
    | true=>
     have M:=Lib.hid (hM hx)
     clear hM hN
     go_wp2_with fail
     refine (c _ _).mono ?_
     rintro e w1 ⟨rfl,rfl⟩
     rw [hx]
     go_wp2
     go_round
     case rel=> exact ⟨j+1,by omega,by go_num,M⟩
     case measure=> simp [intOf];omega
    | false=>
     have N:=Lib.hid (hN hx)
     clear hM hN
     go_wp2_with fail
     refine (c _ _).mono ?_
     rintro e w1 ⟨rfl,rfl⟩
     rw [hx]
     go_wp2
     go_ret
     exact ⟨by rw [N.out];rfl,rfl⟩
   ·obtain rfl:l.length=j:=by omega
    have t1:decide ((l.length:Int)<(l.length:Int))=false:=by simp
    have Y:=Lib.hid (YES.out (by have:=ha.out;rwa [List.take_length] at this))
    clear HL YES NO ha
    go_wp2
    go_ret
    exact ⟨by rw [Y.out];rfl,rfl⟩
def Yay (h:Shd) (sl rw:Value) (z:Int):List Value:=[.int .i64 h.ref,.int .i64 h.flags,.int .i64 h.fmt,.bool h.inter,.int .i64 h.quant,sl,rw,.int .i64 z]
theorem Yrk:(Tryz.prog.info? 25).map (·.size)=some 8:=by kernel_rfl
theorem Ypa (h:Shd) (sl rw_:Value) (z:Int):(Tryz.prog.info? 25).map (·.size)=some (Yay h sl rw_ z).toArray.size:=Yrk
theorem Yh9 (h:Shd) (p q:Option Addr) (n m c d:Nat) (z:Int):(Yay h (.slice p n c) (.slice q m d) z).toArray.all (·.oneCell')=true:=by simp [Yay,Value.oneCell']
theorem Qgm (h:Shd):Yd9 h=(Yss h.ref 8&&(Yss h.flags 3&&(Ygw h.fmt&&(decide (1≤h.quant)&&(decide (h.quant≤31)&&Yfn h.supp))))):=by
 have e:decide (0≤h.ref∧h.ref≤255∧0≤h.flags∧h.flags≤7∧1≤h.quant∧h.quant≤31)=(Yss h.ref 8&&(Yss h.flags 3&&(decide (1≤h.quant)&&decide (h.quant≤31)))):=by
  rw [Bool.eq_iff_iff]
  unfold Yss
  simp only [Bool.and_eq_true,decide_eq_true_iff]
  omega
 unfold Yd9 Yfn
 rw [e]
 cases Yss h.ref 8 <;> cases Yss h.flags 3 <;> cases Ygw h.fmt <;> cases decide (1≤h.quant) <;> cases decide (h.quant≤31) <;> rfl
set_option maxHeartbeats 2000000 in
theorem Ypc (h:Shd) (p:Option Addr) (cap:Nat) (rw_:Value) (z:Int) (hl:h.supp.length≤maxLen) (w:World) (hs:Ycl w p h.supp):
  Calls Tryz.prog 53 #[.agg (Yay h (.slice p h.supp.length cap) rw_ z).toArray] w fun e w'=> e = .returned (.bool (Yd9 h))∧Below w.heap.size w w':=by
 have c6:=fun x (hx:Below w.heap.size w x)=> Y4e p h.supp cap hl x (hs.below hx)
 rw [Qgm]
 obtain ⟨ref,flags,fmt,inter,quant,supp⟩:=h
 have c1:=fun w=> Yo8 ref w
 have c2:=fun w=> Yy5 flags w
 have c3:=fun w=> Ymj fmt w
 unfold Yay
 dsimp only at c6 ⊢
 obtain ⟨b1,h1⟩:∃b,Yss ref 8=b:=⟨_,rfl⟩
 obtain ⟨b2,h2⟩:∃b,Yss flags 3=b:=⟨_,rfl⟩
 obtain ⟨b3,h3⟩:∃b,Ygw fmt=b:=⟨_,rfl⟩
 obtain ⟨b4,h4⟩:∃b,decide (1≤quant)=b:=⟨_,rfl⟩
 obtain ⟨b5,h5⟩:∃b,decide (quant≤31)=b:=⟨_,rfl⟩
 obtain ⟨b6,h6⟩:∃b,Yfn supp=b:=⟨_,rfl⟩
 rw [h1] at c1
 rw [h2] at c2
 rw [h3] at c3
 rw [h6] at c6
 rw [h1,h2,h3,h4,h5,h6]
 have hB:b1=false∨(b1=true∧b2=false)∨(b1=true∧b2=true∧b3=false)∨(b1=true∧b2=true∧b3=true∧b4=false)∨(b1=true∧b2=true∧b3=true∧b4=true∧b5=false)∨(b1=true∧b2=true∧b3=true∧b4=true∧b5=true∧b6=false)∨(b1=true∧b2=true∧b3=true∧b4=true∧b5=true∧b6=true):=by
  revert b1 b2 b3 b4 b5 b6
  intro b1 _ _ b2 _ _ b3 _ _ b4 _ b5 _ b6 _ _
  cases b1 <;> cases b2 <;> cases b3 <;> cases b4 <;> cases b5 <;> cases b6 <;> simp
 clear h1 h2 h3 h6 hl hs
 have hb0:=fun o=> (Below.refl _ w).alloc (Nat.le_refl _) o
 rcases hB with rfl | ⟨rfl,rfl⟩ | ⟨rfl,rfl,rfl⟩ | ⟨rfl,rfl,rfl,rfl⟩ | ⟨rfl,rfl,rfl,rfl,rfl⟩ | ⟨rfl,rfl,rfl,rfl,rfl,rfl⟩ | ⟨rfl,rfl,rfl,rfl,rfl,rfl⟩
 all_goals
  go_enter Tryz.func53,Tryz.ntmps53
  go_wp2_with (first
   | (go_at_call 84;first | (with_reducible refine (c1 _).mono ?_;rintro e w1 ⟨rfl,rfl⟩) | (with_reducible refine (c2 _).mono ?_;rintro e w1 ⟨rfl,rfl⟩))
   | (go_at_call 85;refine (c3 _).mono ?_;rintro e w1 ⟨rfl,rfl⟩)
   | (go_at_call 86;refine (c6 _ (hb0 _)).mono ?_;rintro e w1 ⟨rfl,rfl⟩))
  go_ret
  exact ⟨rfl,hb0 _⟩
def Ygi:List Int→List UInt8
 | []=> []
 | b::l=> 49::(Yau b.toNat 8++Ygi l)
theorem Yrq:∀(l:List Int) (b:Int),Ygi (l ++ [b])=Ygi l++Yau 1 1++Yau b.toNat 8
 | [],b=> by simp [Ygi];rfl
 | c::l,b=> by rw [List.cons_append,Ygi,Yrq l b,Ygi];simp only [List.cons_append,List.append_assoc]
theorem Ymn:∀l:List Int,(Ygi l).length=9*l.length
 | []=> rfl
 | b::l=> by rw [Ygi,List.length_cons,List.length_append,Yak,Ymn l,List.length_cons];omega
theorem Ywx:∀l:List Int,Ygi l++Yau 0 1=Yl0 l
 | []=> rfl
 | b::l=> by rw [Ygi,Yl0,List.cons_append,List.append_assoc,Ywx l]
theorem Y4m {l:List Int} {j:Nat} (hj:j<l.length):Ygi (l.take j)++Yau 1 1++Yau (l.getD j 0).toNat 8=Ygi (l.take (j+1)):=by
 rw [List.take_succ_eq_append_getElem hj,Yrq,show l[j]=l.getD j 0 by simp [List.getD,hj]]
theorem Ye7 {v n:Int} (h:0≤n∧n≤32) (h0:0≤v) (h1:v<2^n.toNat):Yc9 v n=true:=by
 unfold Yc9
 rw [decide_eq_true_iff]
 exact ⟨h.1,h.2,h0,h1⟩
set_option maxHeartbeats 1000000 in
theorem Qdo (a:Addr) (h:Shd) (p:Option Addr) (cap:Nat) (rw_:Value) (z:Int) (hl:h.supp.length≤maxLen) (w:World) (hs:Ycl w p h.supp) (hm:Yd9 h=false):
  Calls Tryz.prog 29 #[.pointer (some a),.agg (Yay h (.slice p h.supp.length cap) rw_ z).toArray] w fun e w'=> e = .returned (.int .i64 12)∧Below w.heap.size w w':=by
 have c:=fun x (hx:Below w.heap.size w x)=> Ypc h p cap rw_ z hl x (hs.below hx)
 rw [hm] at c
 obtain ⟨ref,flags,fmt,inter,quant,supp⟩:=h
 unfold Yay at *
 dsimp only at *
 have hb0:=fun o=> (Below.refl _ w).alloc (Nat.le_refl _) o
 clear hm hs hl
 go_enter Tryz.func29,Tryz.ntmps29
 go_wp2_with fail
 refine (c _ (hb0 _)).mono ?_
 rintro e w1 ⟨rfl,hb1⟩
 have hb2:=(hb0 _).trans (hb1.mono (by simp))
 go_wp2
 go_ret
 exact ⟨rfl,hb2⟩
set_option maxHeartbeats 4000000 in
theorem Y9p (w:World) (B b:Nat) (r:List UInt8) (h:Shd) (p:Option Addr) (cap:Nat) (rw_:Value) (z:Int) (hs:∀x,w.grownBy x (some b)→Ycl x p h.supp) (hm:Yd9 h=true) (hw:Yb9 w B b r) (hn:r.length+400≤1099511627776) (hB:B≤w.heap.size):
  Calls Tryz.prog 29 #[.pointer (some ⟨b,0,none⟩),.agg (Yay h (.slice p h.supp.length cap) rw_ z).toArray] w fun e w'=> e = .returned (.int .i64 0)∧Yb9 w' B b (Yg7 r 0++Ydk h)∧w.grownBy w' (some b):=by
 obtain ⟨⟨r1,r2,f1,f2,q1,q2⟩,⟨m1,m2⟩,hl8,hby⟩:=Yds.1 hm
 have c:=fun x (hx:Below w.heap.size w x)=> Ypc h p cap rw_ z (by unfold maxLen;omega) x (hs x (Yai hx _))
 rw [hm] at c
 have hrow:Ydk h=Yku h++(Ygi h.supp++Yau 0 1):=by rw [Ywx];rfl
 unfold Yku Qg0 at hrow
 obtain ⟨ref,flags,fmt,inter,quant,supp⟩:=h
 unfold Yay at *
 dsimp only at *
 have cn:=fun w=> Ymk inter w
 have hbit:0≤(if inter=true then (1:Int) else 0)∧(if inter=true then (1:Int) else 0)<2∧(if inter=true then (1:Nat) else 0)=(if inter=true then (1:Int) else 0).toNat:=by cases inter <;> decide
 obtain ⟨i0,i1,i2⟩:=hbit
 rw [i2] at hrow
 generalize (if inter=true then (1:Int) else 0)=bi at cn i0 i1 hrow
 clear i2
 have G:=Y0e r.length
 have hlen0:=Ygr r 0
 have cm:=fun x (hx:Yb9 x B b r) hz=> Yvt x B b r 0 (by decide) hx (by omega) hz
 have hbeh:r++List.replicate (gap r.length) 48++Yda 0=Yg7 r 0:=rfl
 rw [hbeh] at cm
 obtain ⟨R0,hR0⟩:∃R,Yg7 r 0=R:=⟨_,rfl⟩
 rw [hR0] at cm hlen0 ⊢
 obtain ⟨R1,hR1⟩:∃R,R0++Yau ref.toNat 8=R:=⟨_,rfl⟩
 have hlen1:R1.length=R0.length+8:=by rw [←hR1,List.length_append,Yak]
 have F1:Hid (Yc9 ref 8=true):=Lib.hid (Ye7 (by omega) (by omega) (by show _<(2:Int)^8;omega))
 have E1:Hid (R0++Yau (ref:Int).toNat (8:Int).toNat=R1):=Lib.hid hR1
 obtain ⟨R2,hR2⟩:∃R,R1++Yau 2 2=R:=⟨_,rfl⟩
 have hlen2:R2.length=R1.length+2:=by rw [←hR2,List.length_append,Yak]
 have F2:Hid (Yc9 2 2=true):=Lib.hid (Ye7 (by omega) (by omega) (by show _<(2:Int)^2;omega))
 have E2:Hid (R1++Yau (2:Int).toNat (2:Int).toNat=R2):=Lib.hid hR2
 obtain ⟨R3,hR3⟩:∃R,R2++Yau flags.toNat 3=R:=⟨_,rfl⟩
 have hlen3:R3.length=R2.length+3:=by rw [←hR3,List.length_append,Yak]
 have F3:Hid (Yc9 flags 3=true):=Lib.hid (Ye7 (by omega) (by omega) (by show _<(2:Int)^3;omega))
 have E3:Hid (R2++Yau (flags:Int).toNat (3:Int).toNat=R3):=Lib.hid hR3
 obtain ⟨R4,hR4⟩:∃R,R3++Yau fmt.toNat 3=R:=⟨_,rfl⟩
 have hlen4:R4.length=R3.length+3:=by rw [←hR4,List.length_append,Yak]
 have F4:Hid (Yc9 fmt 3=true):=Lib.hid (Ye7 (by omega) (by omega) (by show _<(2:Int)^3;omega))
 have E4:Hid (R3++Yau (fmt:Int).toNat (3:Int).toNat=R4):=Lib.hid hR4
 obtain ⟨R5,hR5⟩:∃R,R4++Yau bi.toNat 1=R:=⟨_,rfl⟩
 have hlen5:R5.length=R4.length+1:=by rw [←hR5,List.length_append,Yak]
 have F5:Hid (Yc9 bi 1=true):=Lib.hid (Ye7 (by omega) (by omega) (by show _<(2:Int)^1;omega))
 have E5:Hid (R4++Yau (bi:Int).toNat (1:Int).toNat=R5):=Lib.hid hR5
 obtain ⟨R6,hR6⟩:∃R,R5++Yau 0 4=R:=⟨_,rfl⟩
 have hlen6:R6.length=R5.length+4:=by rw [←hR6,List.length_append,Yak]
 have F6:Hid (Yc9 0 4=true):=Lib.hid (Ye7 (by omega) (by omega) (by show _<(2:Int)^4;omega))
 have E6:Hid (R5++Yau (0:Int).toNat (4:Int).toNat=R6):=Lib.hid hR6
 obtain ⟨R7,hR7⟩:∃R,R6++Yau quant.toNat 5=R:=⟨_,rfl⟩
 have hlen7:R7.length=R6.length+5:=by rw [←hR7,List.length_append,Yak]
 have F7:Hid (Yc9 quant 5=true):=Lib.hid (Ye7 (by omega) (by omega) (by show _<(2:Int)^5;omega))
 have E7:Hid (R6++Yau (quant:Int).toNat (5:Int).toNat=R7):=Lib.hid hR7
 obtain ⟨R8,hR8⟩:∃R,R7++Yau 0 1=R:=⟨_,rfl⟩
 have hlen8:R8.length=R7.length+1:=by rw [←hR8,List.length_append,Yak]
 have F8:Hid (Yc9 0 1=true):=Lib.hid (Ye7 (by omega) (by omega) (by show _<(2:Int)^1;omega))
 have E8:Hid (R7++Yau (0:Int).toNat (1:Int).toNat=R8):=Lib.hid hR8
 have FIN:Hid (R8++(Ygi supp++Yau 0 1)=R0++Ydk ⟨ref,flags,fmt,inter,quant,supp⟩):=Lib.hid (by
  rw [hrow,←hR8,←hR7,←hR6,←hR5,←hR4,←hR3,←hR2,←hR1]
  simp only [List.append_assoc])
 obtain ⟨FR,hFR⟩:∃R,R0++Ydk ⟨ref,flags,fmt,inter,quant,supp⟩=R:=⟨_,rfl⟩
 rw [hFR] at FIN ⊢
 have SF:=fun j hj=> Y4m (l:=supp) (j:=j) hj
 have SB:∀j,j<supp.length→0≤supp.getD j 0∧supp.getD j 0≤255:=fun j hj=> by
  rw [show supp.getD j 0=supp[j] by simp [List.getD,hj]]
  exact hby _ (List.getElem_mem hj)
 have SL:∀j,j≤supp.length→(Ygi (supp.take j)).length=9*j:=fun j hj=> by rw [Ymn,List.length_take];omega
 have SN:=Lib.hid (show supp.take supp.length=supp from List.take_length)
 have HSF:=Lib.hid SF
 have HSB:=Lib.hid SB
 have HSL:=Lib.hid SL
 have hlt:b<w.heap.size:=hw.lt
 clear hrow hFR hR1 hR2 hR3 hR4 hR5 hR6 hR7 hR8 hby hm hbeh hR0 SF SB SL
 have F9:Hid (Yc9 1 1=true):=Lib.hid (by decide)
 have hb0:=fun o=> (Below.refl _ w).alloc (Nat.le_refl _) o
 obtain ⟨A,hA⟩:∃A,w.heap.size=A:=⟨_,rfl⟩
 go_enter Tryz.func29,Tryz.ntmps29
 go_wp2_with fail
 refine (c _ (hb0 _)).mono ?_
 rintro e w1 ⟨rfl,hb1⟩
 have hg1:w.grownBy w1 (some b):=Yai ((hb0 _).trans (hb1.mono (by simp))) _
 have hw1:Yb9 w1 B b r:=hw.below ((hb0 _).trans (hb1.mono (by simp)))
 have hh:w1.heap[A]? = some (.cells [.int .i64 ref,.int .i64 flags,.int .i64 fmt,.bool inter,.int .i64 quant,.slice p supp.length cap,rw_,.int .i64 z].toArray 25 (0,0)):=(hb1.block A (by simp;omega)).trans (hA▸heap_alloc_new w _)
 have hz1:A+1≤w1.heap.size:=by have:=hb1.size;simp at this;omega
 have hbA:b<A:=by omega
 clear hb1 hb0 c hw
 have CL:Hid (∀x,w1.grownBy x (some b)→x.cell? ⟨A,0,none⟩=some (.int .i64 ref)∧x.cell? ⟨A,1,none⟩=some (.int .i64 flags)∧x.cell? ⟨A,2,none⟩=some (.int .i64 fmt)∧x.cell? ⟨A,3,none⟩=some (.bool inter)∧x.cell? ⟨A,4,none⟩=some (.int .i64 quant)∧x.cell? ⟨A,5,none⟩=some (.slice p supp.length cap)):=Lib.hid fun x hx=> by
  have h2:=(hx.block A (by omega) (by intro e;injection e with e;omega)).trans hh
  exact ⟨Yaa h2 rfl,Yaa h2 rfl,Yaa h2 rfl,Yaa h2 rfl,Yaa h2 rfl,Yaa h2 rfl⟩
 have HS:Hid (∀x,w1.grownBy x (some b)→Ycl x p supp):=Lib.hid fun x hx=> hs x (Yad hg1 hx)
 clear hh hs
 generalize hp0:w1=x0 at hw1 ⊢
 have hgx:w1.grownBy x0 (some b):=by rw [←hp0];exact Yai (Below.refl _ _) _
 have hzx:B≤x0.heap.size:=by rw [←hp0];omega
 clear hp0
 go_wp2_with fail
 refine (cm _ hw1 hzx).mono ?_
 rintro e y0 ⟨rfl,hw2,hg2⟩
 have hgy:=Yad hgx hg2
 have hzy:B≤y0.heap.size:=Nat.le_trans hzx hg2.size
 clear hw1 hg2 hgx hzx cm
 obtain ⟨k0,k1,k2,k3,k4,k5⟩:=CL.out _ hgy
 go_wp2_with fail
 refine (Ycx _ B b _ ref 8 hw2 (by omega) F1.out (by omega) hzy).mono ?_
 rintro e x0 ⟨rfl,hw3,hg2⟩
 rw [E1.out] at hw3
 have hgx:=Yad hgy hg2
 have hzx:B≤x0.heap.size:=Nat.le_trans hzy hg2.size
 clear hw2
 have hw2:=hw3
 clear hw3 hg2 hgy hzy k0 k1 k2 k3 k4 k5
 obtain ⟨k0,k1,k2,k3,k4,k5⟩:=CL.out _ hgx
 go_wp2_with fail
 refine (Ycx _ B b _ 2 2 hw2 (by omega) F2.out (by omega) hzx).mono ?_
 rintro e y0 ⟨rfl,hw3,hg2⟩
 rw [E2.out] at hw3
 have hgy:=Yad hgx hg2
 have hzy:B≤y0.heap.size:=Nat.le_trans hzx hg2.size
 clear hw2
 have hw2:=hw3
 clear hw3 hg2 hgx hzx k0 k1 k2 k3 k4 k5
 obtain ⟨k0,k1,k2,k3,k4,k5⟩:=CL.out _ hgy
 go_wp2_with fail
 refine (Ycx _ B b _ flags 3 hw2 (by omega) F3.out (by omega) hzy).mono ?_
 rintro e x0 ⟨rfl,hw3,hg2⟩
 rw [E3.out] at hw3
 have hgx:=Yad hgy hg2
 have hzx:B≤x0.heap.size:=Nat.le_trans hzy hg2.size
 clear hw2
 have hw2:=hw3
 clear hw3 hg2 hgy hzy k0 k1 k2 k3 k4 k5
 obtain ⟨k0,k1,k2,k3,k4,k5⟩:=CL.out _ hgx
 go_wp2_with fail
 refine (Ycx _ B b _ fmt 3 hw2 (by omega) F4.out (by omega) hzx).mono ?_
 rintro e y0 ⟨rfl,hw3,hg2⟩
 rw [E4.out] at hw3
 have hgy:=Yad hgx hg2
 have hzy:B≤y0.heap.size:=Nat.le_trans hzx hg2.size
 clear hw2
 have hw2:=hw3
 clear hw3 hg2 hgx hzx k0 k1 k2 k3 k4 k5
 obtain ⟨k0,k1,k2,k3,k4,k5⟩:=CL.out _ hgy
 go_wp2_with fail
 refine (cn _).mono ?_
 rintro e u0 ⟨rfl,rfl⟩
 go_wp2_with fail
 refine (Ycx _ B b _ bi 1 hw2 (by omega) F5.out (by omega) hzy).mono ?_
 rintro e x0 ⟨rfl,hw3,hg2⟩
 rw [E5.out] at hw3
 have hgx:=Yad hgy hg2
 have hzx:B≤x0.heap.size:=Nat.le_trans hzy hg2.size
 clear hw2
 have hw2:=hw3
 clear hw3 hg2 hgy hzy k0 k1 k2 k3 k4 k5
 obtain ⟨k0,k1,k2,k3,k4,k5⟩:=CL.out _ hgx
 go_wp2_with fail
 refine (Ycx _ B b _ 0 4 hw2 (by omega) F6.out (by omega) hzx).mono ?_
 rintro e y0 ⟨rfl,hw3,hg2⟩
 rw [E6.out] at hw3
 have hgy:=Yad hgx hg2
 have hzy:B≤y0.heap.size:=Nat.le_trans hzx hg2.size
 clear hw2
 have hw2:=hw3
 clear hw3 hg2 hgx hzx k0 k1 k2 k3 k4 k5
 obtain ⟨k0,k1,k2,k3,k4,k5⟩:=CL.out _ hgy
 go_wp2_with fail
 refine (Ycx _ B b _ quant 5 hw2 (by omega) F7.out (by omega) hzy).mono ?_
 rintro e x0 ⟨rfl,hw3,hg2⟩
 rw [E7.out] at hw3
 have hgx:=Yad hgy hg2
 have hzx:B≤x0.heap.size:=Nat.le_trans hzy hg2.size
 clear hw2
 have hw2:=hw3
 clear hw3 hg2 hgy hzy k0 k1 k2 k3 k4 k5
 obtain ⟨k0,k1,k2,k3,k4,k5⟩:=CL.out _ hgx
 go_wp2_with fail
 refine (Ycx _ B b _ 0 1 hw2 (by omega) F8.out (by omega) hzx).mono ?_
 rintro e y0 ⟨rfl,hw3,hg2⟩
 rw [E8.out] at hw3
 have hgy:=Yad hgx hg2
 have hzy:B≤y0.heap.size:=Nat.le_trans hzx hg2.size
 clear hw2
 have hw2:=hw3
 clear hw3 hg2 hgx hzx k0 k1 k2 k3 k4 k5
 obtain ⟨k0,k1,k2,k3,k4,k5⟩:=CL.out _ hgy
 go_wp2
 clear k0 k1 k2 k3 k4 k5 cn F1 F2 F3 F4 F5 F6 F7 E1 E2 E3 E4 E5 E6 E7 hA
 go_loopw [44] (fun i wr=>∃j:Nat,j≤supp.length∧i = .int .i64 j∧Yb9 wr B b (R8++Ygi (supp.take j))∧w1.grownBy wr (some b)∧B≤wr.heap.size) (fun i _=> supp.length-(RowKit.intOf i).toNat)
 case atStart=> exact ⟨0,Nat.zero_le _,rfl,by rw [List.take_zero];show Yb9 _ B b (R8 ++ []);rw [List.append_nil];exact hw2,hgy,hzy⟩
 case round=>
  clear hw2 hgy hzy
  obtain ⟨j,hj,rfl,hw2,hgy,hzy⟩:=hrel
  have hlj:=HSL.out j hj
  by_cases hlt:j<supp.length
  ·have t1:decide ((j:Int)<(supp.length:Int))=true:=by simp;omega
   obtain ⟨b1,o1,rfl,hb1,hc1⟩:=(HS.out _ hgy).hold (by omega)
   have k0:=hc1 _ (Below.refl _ _) j hlt
   obtain ⟨v0,v1⟩:=HSB.out j hlt
   have hsf:=HSF.out j hlt
   clear HS HSB HSF HSL hc1
   obtain ⟨v,hv⟩:∃v,supp.getD j 0=v:=⟨_,rfl⟩
   rw [hv] at k0 v0 v1 hsf
   obtain ⟨S0,hS0⟩:∃S,Ygi (supp.take j)=S:=⟨_,rfl⟩
   obtain ⟨S1,hS1⟩:∃S,Ygi (supp.take (j+1))=S:=⟨_,rfl⟩
   rw [hS0,hS1] at hsf
   rw [hS0] at hw2 hlj
   have FB:=Lib.hid (Ye7 (v:=v) (n:=8) (by omega) v0 (by show _<(2:Int)^8;omega))
   have HS1:=Lib.hid hS1
   have SQ:Hid (R8++S0++Yau (1:Int).toNat (1:Int).toNat++Yau v.toNat (8:Int).toNat=R8++S1):=Lib.hid (by rw [←hsf];simp only [List.append_assoc];rfl)
   clear hv hS0 hS1 hsf
   have hS0l:(R8++S0).length≤r.length+200:=by rw [List.length_append];omega
   have hS1l:(R8++S0++Yau (1:Int).toNat (1:Int).toNat).length≤r.length+201:=by rw [List.length_append,Yak];have e:(1:Int).toNat=1:=rfl;omega
   go_wp2_with fail
   refine (Ycx _ B b _ 1 1 hw2 (by omega) F9.out (by omega) hzy).mono ?_
   rintro e x1 ⟨rfl,hw3,hg2⟩
   have hgx:=Yad hgy hg2
   have hzx:B≤x1.heap.size:=Nat.le_trans hzy hg2.size
   clear hw2 hg2 hgy hzy k0
   go_wp2_with fail
   refine (Ycx _ B b _ v 8 hw3 (by omega) FB.out (by omega) hzx).mono ?_
   rintro e x2 ⟨rfl,hw4,hg2⟩
   rw [SQ.out] at hw4
   have hgy:=Yad hgx hg2
   have hzy:B≤x2.heap.size:=Nat.le_trans hzx hg2.size
   clear hw3 hg2 hgx hzx
   go_wp2
   go_roundw
   case rel=> exact ⟨j+1,by omega,by go_num,by rw [HS1.out];exact hw4,hgy,hzy⟩
   case measure=> simp [RowKit.intOf];omega
  ·obtain rfl:supp.length=j:=by omega
   have t1:decide ((supp.length:Int)<(supp.length:Int))=false:=by simp
   rw [SN.out] at hw2 hlj
   have FN:Hid (R8++Ygi supp++Yau (0:Int).toNat (1:Int).toNat=FR):=Lib.hid (by rw [←FIN.out];simp only [List.append_assoc];rfl)
   have hS0l:(R8++Ygi supp).length≤r.length+200:=by rw [List.length_append];omega
   clear HS HSB HSF HSL FIN
   go_wp2_with fail
   refine (Ycx _ B b _ 0 1 hw2 (by omega) F8.out (by omega) hzy).mono ?_
   rintro e x1 ⟨rfl,hw3,hg2⟩
   rw [FN.out] at hw3
   have hgx:=Yad hg1 (Yad hgy hg2)
   clear hw2 hg2 hgy hzy hg1
   go_wp2
   go_ret
   exact ⟨rfl,hw3,hgx⟩
theorem Y35 {l:List UInt8} {p:Nat} (h:p%8≠0):Yca l p=4:=if_pos h
theorem Y34 {l:List UInt8} {p:Nat} (h:p%8=0) (h2:(Ybi l p).2≠0):Yca l p=(Ybi l p).2:=by
 unfold Yca;rw [if_neg (by omega),if_pos h2]
theorem Ywl {l:List UInt8} {p:Nat} (h:p%8=0) (h2:(Ybi l p).2=0) (h1:(Ybi l p).1≠0):Yca l p=4:=by
 unfold Yca;rw [if_neg (by omega),if_neg (fun k=> k h2),if_pos h1]
theorem Y9f {l:List UInt8} {p:Nat} (h:p%8=0) (h2:(Ybi l p).2=0) (h1:(Ybi l p).1=0):Yca l p=0:=by
 unfold Yca;rw [if_neg (by omega),if_neg (fun k=> k h2),if_neg (fun k=> k h1)]
def Yri (l:List UInt8) (p:Nat):Nat:=if Yca l p=0 then p+22 else p
set_option maxHeartbeats 1000000 in
theorem Y4d (w:World) (b:Nat) (s:ByteArray) (p:Nat) (hr:Ybb w b s p) (hs:s.size≤1099511627776):
  Calls Tryz.prog 130 #[.pointer (some ⟨b,0,none⟩)] w fun e w'=> e = .returned (.int .i64 (Yca s.data.toList p))∧Ybb w' b s (Yri s.data.toList p)∧w.grownBy w' (some b):=by
 have hp:=hr.2.1
 have hsl:s.data.toList.length=s.size:=rfl
 have hm:(p:Int).tmod 8=((p%8:Nat):Int):=by rw [Int.tmod_eq_emod_of_nonneg (by omega)];rfl
 have ca:=fun w=> Yb7 w b s p
 by_cases h8:p%8=0
 ·have d8:((((p%8:Nat):Int)) != 0)=false:=by rw [h8];rfl
  have c1:=fun w=> Y0m w s (p:Int) hs
  have iM:=fun h2=> Y34 (l:=s.data.toList) h8 h2
  have iO:=fun h2 h1=> Ywl (l:=s.data.toList) h8 h2 h1
  have iK:=fun h2 h1=> Y9f (l:=s.data.toList) h8 h2 h1
  have iz:=fun h=> Yo9 (l:=s.data.toList) (p:=p) h
  generalize p%8=m8 at hm d8
  obtain ⟨m,hmm⟩:∃m,(Ybi s.data.toList p).1=m:=⟨_,rfl⟩
  obtain ⟨f,hf⟩:∃f,(Ybi s.data.toList p).2=f:=⟨_,rfl⟩
  rw [hmm,hf] at c1
  rw [hf] at iM iO iK
  rw [hmm] at iO iK
  unfold Yri
  obtain ⟨S,hS⟩:∃S,Yca s.data.toList p=S:=⟨_,rfl⟩
  rw [hS] at iM iO iK iz ⊢
  clear hS hmm hf h8
  by_cases h2:f=0
  ·by_cases h1:m=0
   ·obtain rfl:=iK h2 h1
    obtain ⟨-,z2,-⟩:=iz rfl
    have K:=Lib.hid (Ycz (l:=s.data.toList) (p:=p) (n:=22) (by omega) (by omega))
    have T:Hid (Ycu s.data.toList p 22=p+22):=Lib.hid (by unfold Ycu;rw [K.out];rfl)
    subst h2 h1
    rw [if_pos rfl]
    clear iM iO iK iz z2 hp hsl
    go_enter Tryz.func130,Tryz.ntmps130
    go_wp2_with fail
    refine (ca _ hr).mono ?_
    rintro e w1 ⟨rfl,rfl⟩
    go_wp2_with fail
    refine (Ydr _ _ _ _ hr).mono ?_
    rintro e w1 ⟨rfl,rfl⟩
    go_wp2_with fail
    refine (ca _ hr).mono ?_
    rintro e w1 ⟨rfl,rfl⟩
    go_wp2_with fail
    refine (c1 _).mono ?_
    rintro e w1 ⟨rfl,hb1⟩
    have hr1:=hr.below hb1
    have hg1:=Yai hb1 (some b)
    clear hr hb1
    go_wp2_with fail
    refine (Ycr _ _ _ _ 22 hr1).mono ?_
    rintro e w3 ⟨rfl,hr3,hg4⟩
    rw [T.out] at hr3
    rw [K.out]
    go_wp2
    go_ret
    exact ⟨rfl,hr3,Yad hg1 hg4⟩
   ·obtain rfl:=iO h2 h1
    have d1:(m != 0)=true:=by rw [bne_iff_ne];exact h1
    subst h2
    rw [if_neg (by decide)]
    clear iM iO iK iz hp hsl h1
    go_enter Tryz.func130,Tryz.ntmps130
    go_wp2_with fail
    refine (ca _ hr).mono ?_
    rintro e w1 ⟨rfl,rfl⟩
    go_wp2_with fail
    refine (Ydr _ _ _ _ hr).mono ?_
    rintro e w1 ⟨rfl,rfl⟩
    go_wp2_with fail
    refine (ca _ hr).mono ?_
    rintro e w1 ⟨rfl,rfl⟩
    go_wp2_with fail
    refine (c1 _).mono ?_
    rintro e w1 ⟨rfl,hb1⟩
    go_wp2
    go_ret
    exact ⟨rfl,hr.below hb1,Yai hb1 _⟩
  ·obtain rfl:=iM h2
   have d2:(S != 0)=true:=by rw [bne_iff_ne];exact h2
   rw [if_neg h2]
   clear iM iO iK iz hp hsl h2
   go_enter Tryz.func130,Tryz.ntmps130
   go_wp2_with fail
   refine (ca _ hr).mono ?_
   rintro e w1 ⟨rfl,rfl⟩
   go_wp2_with fail
   refine (Ydr _ _ _ _ hr).mono ?_
   rintro e w1 ⟨rfl,rfl⟩
   go_wp2_with fail
   refine (ca _ hr).mono ?_
   rintro e w1 ⟨rfl,rfl⟩
   go_wp2_with fail
   refine (c1 _).mono ?_
   rintro e w1 ⟨rfl,hb1⟩
   go_wp2
   go_ret
   exact ⟨rfl,hr.below hb1,Yai hb1 _⟩
 ·have d8:((((p%8:Nat):Int)) != 0)=true:=by rw [bne_iff_ne];omega
  unfold Yri
  rw [Y35 h8,if_neg (by decide)]
  generalize p%8=m8 at hm d8
  clear h8 hp hsl
  go_enter Tryz.func130,Tryz.ntmps130
  go_wp2_with fail
  refine (ca _ hr).mono ?_
  rintro e w1 ⟨rfl,rfl⟩
  go_wp2
  go_ret
  exact ⟨rfl,hr,Yai (Below.refl _ _) _⟩
def Ygl (l:List UInt8) (e:Int) (q:Nat) (d:Int):Int:=if e=0 then (ask l q d).1 else 0
def Ygj (l:List UInt8) (e:Int) (q:Nat) (d:Int):Int:=if e=0 then (ask l q d).2 else e
def Ygk (l:List UInt8) (e:Int) (q:Nat) (d:Int):Nat:=if e=0 then Ycu l q d else q
structure Cap (w:World) (X Y b:Nat) (s:ByteArray) (e:Int) (q:Nat):Prop where
 wrong:w.heap[X]? = some (.cells [.int .i64 e].toArray 31 (0,0))
 box:w.heap[Y]? = some (.cells [.pointer (some ⟨b,0,none⟩)].toArray 43 (0,0))
 rd:Ybb w b s q
 apart:X≠Y∧X≠b∧Y≠b
theorem Cap.set {w:World} {X Y b:Nat} {s:ByteArray} {e:Int} {q:Nat} (h:Cap w X Y b s e q) (a:Addr) (v:Value) (ha:a.block≠X∧a.block≠Y∧a.block≠b):Cap (w.setCell a v) X Y b s e q:=
 ⟨(Below.heap_setCell _ _ _ _ (by omega)).trans h.wrong,(Below.heap_setCell _ _ _ _ (by omega)).trans h.box,⟨(Below.heap_setCell _ _ _ _ (by omega)).trans h.rd.1,h.rd.2⟩,h.apart⟩
set_option maxHeartbeats 1000000 in
theorem Ydl (w:World) (X Y b:Nat) (s:ByteArray) (e:Int) (q:Nat) (d:Int) (h:Cap w X Y b s e q):
  Calls Tryz.prog 131 #[.int .i64 d,.pointer (some ⟨X,0,none⟩),.pointer (some ⟨Y,0,none⟩)] w fun r w'=> r = .returned (.int .i64 (Ygl s.data.toList e q d))∧Cap w' X Y b s (Ygj s.data.toList e q d) (Ygk s.data.toList e q d)∧Ya7 X b w w':=by
 have k0:w.cell? ⟨X,0,none⟩=some (.int .i64 e):=Yaa h.wrong rfl
 have k1:w.cell? ⟨Y,0,none⟩=some (.pointer (some ⟨b,0,none⟩)):=Yaa h.box rfl
 obtain ⟨n1,n2,n3⟩:=h.apart
 have HC:=Lib.hid h
 unfold Ygl Ygj Ygk
 by_cases he:e=0
 ·rw [if_pos he,if_pos he,if_pos he]
  subst he
  have c:=fun w hr=> Ycr w b s q d hr
  generalize (ask s.data.toList q d).1=v at *
  generalize (ask s.data.toList q d).2=f at *
  generalize Ycu s.data.toList q d=q2 at *
  clear h
  go_enter Tryz.func131,Tryz.ntmps131
  go_wp2_with fail
  refine (c _ HC.out.rd).mono ?_
  rintro e w1 ⟨rfl,hr1,hg1⟩
  have hX:w1.heap[X]? = some (.cells [.int .i64 0].toArray 31 (0,0)):=(hg1.block X (Array.getElem?_eq_some_iff.1 HC.out.wrong).1 (by intro e;injection e with e;omega)).trans HC.out.wrong
  have hY:=(hg1.block Y (Array.getElem?_eq_some_iff.1 HC.out.box).1 (by intro e;injection e with e;omega)).trans HC.out.box
  have kx:w1.cell? ⟨X,0,none⟩=some (.int .i64 0):=Yaa hX rfl
  have fx:w1.frozen? ⟨X,0,none⟩=false:=Yag hX
  clear k0 k1
  go_wp2
  go_ret
  refine ⟨rfl,⟨Yat (.int .i64 f) hX,(Below.heap_setCell _ _ _ _ (by show Y≠X;omega)).trans hY,⟨(Below.heap_setCell _ _ _ _ (by show b≠X;omega)).trans hr1.1,hr1.2⟩,n1,n2,n3⟩,(Ya7.grown hg1 (.inr rfl)).trans (Ya7.set _ (.inl rfl))⟩
 ·rw [if_neg he,if_neg he,if_neg he]
  have d1:(e != 0)=true:=by rw [bne_iff_ne];exact he
  clear h he
  go_enter Tryz.func131,Tryz.ntmps131
  go_wp2
  go_ret
  exact ⟨rfl,HC.out,Ya7.refl _ _ _⟩
def Ymw (e:Int) (holds:Bool) (fault:Int):Int:=if e=0∧holds=false then fault else e
set_option maxHeartbeats 1000000 in
theorem Ygh (w:World) (X Y b:Nat) (s:ByteArray) (e:Int) (q:Nat) (holds:Bool) (fault:Int) (h:Cap w X Y b s e q):
  Calls Tryz.prog 133 #[.bool holds,.int .i64 fault,.pointer (some ⟨X,0,none⟩)] w fun r w'=> r = .returned (.tuple #[])∧Cap w' X Y b s (Ymw e holds fault) q∧Ya7 X b w w':=by
 have k0:w.cell? ⟨X,0,none⟩=some (.int .i64 e):=Yaa h.wrong rfl
 have f0:w.frozen? ⟨X,0,none⟩=false:=Yag h.wrong
 obtain ⟨n1,n2,n3⟩:=h.apart
 have HC:=Lib.hid h
 unfold Ymw
 by_cases he:e=0
 ·subst he
  cases holds with
  | true=>
   rw [if_neg (by simp)]
   clear h
   go_enter Tryz.func133,Tryz.ntmps133
   go_wp2
   go_end0
   exact ⟨rfl,HC.out,Ya7.refl _ _ _⟩
  | false=>
   rw [if_pos (by simp)]
   clear h
   go_enter Tryz.func133,Tryz.ntmps133
   go_wp2
   go_end0
   refine ⟨rfl,⟨Yat (.int .i64 fault) HC.out.wrong,(Below.heap_setCell _ _ _ _ (by show Y≠X;omega)).trans HC.out.box,⟨(Below.heap_setCell _ _ _ _ (by show b≠X;omega)).trans HC.out.rd.1,HC.out.rd.2⟩,n1,n2,n3⟩,Ya7.set _ (.inl rfl)⟩
 ·rw [if_neg (by omega)]
  have d1:(e==0)=false:=by rw [beq_eq_false_iff_ne];exact he
  clear h he
  go_enter Tryz.func133,Tryz.ntmps133
  go_wp2
  go_end0
  exact ⟨rfl,HC.out,Ya7.refl _ _ _⟩
end Go.Proofs.YtgikochfffdpfaaGreatDoor