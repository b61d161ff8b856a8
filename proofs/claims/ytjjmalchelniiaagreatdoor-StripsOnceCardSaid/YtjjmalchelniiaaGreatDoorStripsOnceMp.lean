/- Part 16 of StripsOnce. No condition. -/
import Derived.Test.YtjjmalchelniiaaGreatDoorStripsOnceMg
import Derived.Test.YtjjmalchelniiaaGreatDoorStripsOnceMh
import Derived.Test.YtjjmalchelniiaaGreatDoorStripsOnceMj
import Derived.Test.YtjjmalchelniiaaGreatDoorStripsOnceMk
import Derived.Test.YtjjmalchelniiaaGreatDoorStripsOnceMm
import Derived.Test.YtjjmalchelniiaaGreatDoorStripsOnceMn
import Derived.Test.YtjjmalchelniiaaGreatDoorStripsOnceMo
namespace Go.Proofs.YtjjmalchelniiaaGreatDoor
open Go.RowKit Go.Lib
def Yti (n:Int)(d:Nat):Bool:=decide (0≤n∧n<2^d)
set_option maxHeartbeats 1000000 in
theorem Ypl (n:Int)(w:World):
  Calls Tryz.prog 135 #[.int .i64 n,.int .i64 8] w fun e w'=>e=.returned (.bool (Yti n 8))∧w=w':=by
 by_cases h0:0≤n
 ·have e:decide (n<256)=Yti n 8:=by
   unfold Yti;rw[decide_eq_decide];omega
  go_enter Tryz.func135,Tryz.ntmps135
  go_wp2
  go_ret
  exact⟨rfl,rfl⟩
 ·rw[show Yti n 8=false from decide_eq_false (by omega)]
  go_enter Tryz.func135,Tryz.ntmps135
  go_wp2
  go_ret
  exact⟨rfl,rfl⟩
set_option maxHeartbeats 1000000 in
theorem Y0b (n:Int)(w:World):
  Calls Tryz.prog 135 #[.int .i64 n,.int .i64 3] w fun e w'=>e=.returned (.bool (Yti n 3))∧w=w':=by
 by_cases h0:0≤n
 ·have e:decide (n<8)=Yti n 3:=by
   unfold Yti;rw[decide_eq_decide];omega
  go_enter Tryz.func135,Tryz.ntmps135
  go_wp2
  go_ret
  exact⟨rfl,rfl⟩
 ·rw[show Yti n 3=false from decide_eq_false (by omega)]
  go_enter Tryz.func135,Tryz.ntmps135
  go_wp2
  go_ret
  exact⟨rfl,rfl⟩
set_option maxHeartbeats 1000000 in
theorem Ymj (k:Int)(w:World):
  Calls Tryz.prog 136 #[.int .i64 k] w fun e w'=>e=.returned (.bool (Ygx k))∧w=w':=by
 have c:=fun w=>Yrd k w
 go_enter Tryz.func136,Tryz.ntmps136
 go_wp2_with fail
 refine(c _).mono ?_;rintro e w1 ⟨rfl,rfl⟩
 go_wp2
 go_ret
 exact⟨rfl,rfl⟩
set_option maxHeartbeats 1000000 in
theorem Yml (b:Bool)(w:World):
  Calls Tryz.prog 103 #[.bool b] w fun e w'=>e=.returned (.int .i64 (if b then 1 else 0))∧w=w':=by
 cases b with
 |true=>
  go_enter Tryz.func103,Tryz.ntmps103
  go_wp2
  go_ret
  exact⟨rfl,rfl⟩
 |false=>
  go_enter Tryz.func103,Tryz.ntmps103
  go_wp2
  go_ret
  exact⟨rfl,rfl⟩
def Yfs (l:List Int):Bool:=decide (l.length≤8)&&l.all Yhb
theorem Yxs {l:List Int}(h:8<l.length):Yfs l=false:=by
 unfold Yfs;rw[decide_eq_false (by omega)];rfl
theorem Qc3 (x:Int):Yti x 8=Yhb x:=by
 unfold Yti Yhb;rw[decide_eq_decide];omega
theorem Y0n {l:List Int}(h8:¬ 8<l.length)(h:l.all Yhb=true):Yfs l=true:=by
 unfold Yfs;rw[decide_eq_true (by omega),h];rfl
theorem Y53 {l:List Int}{j:Nat}(hj:j<l.length)(h:Yhb (l.getD j 0)=false):Yfs l=false:=by
 unfold Yfs;rw[Bool.and_eq_false_iff]
 right
 rw[List.all_eq_false];refine⟨l[j],List.getElem_mem hj,?_⟩;rw[show l.getD j 0=l[j] by simp[List.getD,hj]] at h;rw[h];decide
theorem Y3k {l:List Int}{j:Nat}(hj:j<l.length)(h:(l.take j).all Yhb=true)(h2:Yhb (l.getD j 0)=true):(l.take (j+1)).all Yhb=true:=by
 rw[show l.getD j 0=l[j] by simp[List.getD,hj]] at h2;rw[List.take_succ_eq_append_getElem hj,List.all_append,h,List.all_cons,h2]
 rfl
set_option maxHeartbeats 1000000 in
theorem Y5v (p:Option Addr)(l:List Int)(cap:Nat)(hl:l.length≤maxLen)(w:World)(h:Ydw w p l):
  Calls Tryz.prog 137 #[.slice p l.length cap] w fun e w'=>e=.returned (.bool (Yfs l))∧w=w':=by
 unfold maxLen at hl;by_cases h8:8<l.length
 ·have t0:decide (8<(l.length:Int))=true:=by simp;omega
  rw[Yxs h8];generalize l.length=n at *;clear h h8
  go_enter Tryz.func137,Tryz.ntmps137
  go_wp2
  go_ret
  exact⟨rfl,rfl⟩
 ·have t0:decide (8<(l.length:Int))=false:=by simp;omega
  have yes:=fun h=>Y0n (l:=l) h8 h;have no:=fun j hj h=>Y53 (l:=l) (j:=j) hj h;obtain⟨S,hS⟩:∃S,Yfs l=S:=⟨_,rfl⟩;rw[hS] at yes no ⊢;have YES:=Lib.hid yes;have NO:=Lib.hid no;have c:=fun n w=>Ypl n w;simp only[Qc3] at c;have HL:=fun h0=>h.hold h0;clear h h8 hS yes no
  go_enter Tryz.func137,Tryz.ntmps137
  go_wp2
  go_loop [10] (fun i=>∃j:Nat,j≤l.length∧i=.int .i64 j∧Hid ((l.take j).all Yhb=true)) (fun i=>l.length-(intOf i).toNat)
  case atStart=>exact⟨0,Nat.zero_le _,rfl,Lib.hid rfl⟩
  case round=>
   obtain⟨j,hj,rfl,ha⟩:=hrel;by_cases hlt:j<l.length
   ·have t1:decide ((j:Int)<(l.length:Int))=true:=by simp;omega
    obtain⟨b,o,rfl,hb,hc⟩:=HL (by omega);have k0:=hc w (Below.refl _ w) j hlt;have hM:=fun h=>Y3k hlt ha.out h;have hN:=NO.out j hlt;clear hc HL YES NO;generalize l.getD j 0=x at *;cases hx:Yhb x with
    |true=>
     have M:=Lib.hid (hM hx);clear hM hN
     go_wp2_with fail
     refine(c _ _).mono ?_;rintro e w1 ⟨rfl,rfl⟩;rw[hx]
     go_wp2
     go_round
     case rel=>exact⟨j+1,by omega,by go_num,M⟩
     case measure=>simp[intOf];omega
    |false=>
     have N:=Lib.hid (hN hx);clear hM hN
     go_wp2_with fail
     refine(c _ _).mono ?_;rintro e w1 ⟨rfl,rfl⟩;rw[hx]
     go_wp2
     go_ret
     exact⟨by rw[N.out];rfl,rfl⟩
   ·obtain rfl:l.length=j:=by omega
    have t1:decide ((l.length:Int)<(l.length:Int))=false:=by simp
    have Y:=Lib.hid (YES.out (by have:=ha.out;rwa [List.take_length] at this));clear HL YES NO ha
    go_wp2
    go_ret
    exact⟨by rw[Y.out];rfl,rfl⟩
def Ya5 (h:Shd)(sl rw:Value)(z:Int):List Value:=[.int .i64 h.ref,.int .i64 h.flags,.int .i64 h.fmt,.bool h.inter,.int .i64 h.quant,sl,rw,.int .i64 z]
theorem Yr6:(Tryz.prog.info? 39).map (·.size)=some 8:=by kernel_rfl
theorem Ypn (h:Shd)(sl rw_:Value)(z:Int):(Tryz.prog.info? 39).map (·.size)=some (Ya5 h sl rw_ z).toArray.size:=Yr6
theorem Ykv (h:Shd)(p q:Option Addr)(n m c d:Nat)(z:Int):(Ya5 h (.slice p n c) (.slice q m d) z).toArray.all (·.oneCell')=true:=by simp[Ya5,Value.oneCell']
theorem Qii (h:Shd):Yej h=(Yti h.ref 8&&(Yti h.flags 3&&(Ygx h.fmt&&(decide (1≤h.quant)&&(decide (h.quant≤31)&&Yfs h.supp))))):=by
 have e:decide (0≤h.ref∧h.ref≤255∧0≤h.flags∧h.flags≤7∧1≤h.quant∧h.quant≤31)=(Yti h.ref 8&&(Yti h.flags 3&&(decide (1≤h.quant)&&decide (h.quant≤31)))):=by
  rw[Bool.eq_iff_iff];unfold Yti;simp only[Bool.and_eq_true,decide_eq_true_iff];omega
 unfold Yej Yfs;rw[e];cases Yti h.ref 8 <;> cases Yti h.flags 3 <;> cases Ygx h.fmt <;> cases decide (1≤h.quant) <;> cases decide (h.quant≤31) <;> rfl
set_option maxHeartbeats 2000000 in
theorem Ypr (h:Shd)(p:Option Addr)(cap:Nat)(rw_:Value)(z:Int)(hl:h.supp.length≤maxLen)(w:World)(hs:Ydw w p h.supp):
  Calls Tryz.prog 102 #[.agg (Ya5 h (.slice p h.supp.length cap) rw_ z).toArray] w fun e w'=>e=.returned (.bool (Yej h))∧Below w.heap.size w w':=by
 have c6:=fun x (hx:Below w.heap.size w x)=>Y5v p h.supp cap hl x (hs.below hx);rw[Qii];obtain⟨ref,flags,fmt,inter,quant,supp⟩:=h;have c1:=fun w=>Ypl ref w;have c2:=fun w=>Y0b flags w;have c3:=fun w=>Ymj fmt w;unfold Ya5;dsimp only at c6 ⊢;obtain⟨b1,h1⟩:∃b,Yti ref 8=b:=⟨_,rfl⟩;obtain⟨b2,h2⟩:∃b,Yti flags 3=b:=⟨_,rfl⟩;obtain⟨b3,h3⟩:∃b,Ygx fmt=b:=⟨_,rfl⟩;obtain⟨b4,h4⟩:∃b,decide (1≤quant)=b:=⟨_,rfl⟩
 obtain⟨b5,h5⟩:∃b,decide (quant≤31)=b:=⟨_,rfl⟩;obtain⟨b6,h6⟩:∃b,Yfs supp=b:=⟨_,rfl⟩;rw[h1] at c1;rw[h2] at c2;rw[h3] at c3;rw[h6] at c6;rw[h1,h2,h3,h4,h5,h6]
 have hB:b1=false∨(b1=true∧b2=false)∨(b1=true∧b2=true∧b3=false)∨(b1=true∧b2=true∧b3=true∧b4=false)∨(b1=true∧b2=true∧b3=true∧b4=true∧b5=false)∨(b1=true∧b2=true∧b3=true∧b4=true∧b5=true∧b6=false)∨(b1=true∧b2=true∧b3=true∧b4=true∧b5=true∧b6=true):=by
  revert b1 b2 b3 b4 b5 b6;intro b1 _ _ b2 _ _ b3 _ _ b4 _ b5 _ b6 _ _;cases b1 <;> cases b2 <;> cases b3 <;> cases b4 <;> cases b5 <;> cases b6 <;> simp
 clear h1 h2 h3 h6 hl hs;have hb0:=fun o=>(Below.refl _ w).alloc (Nat.le_refl _) o;rcases hB with rfl|⟨rfl,rfl⟩|⟨rfl,rfl,rfl⟩|⟨rfl,rfl,rfl,rfl⟩|⟨rfl,rfl,rfl,rfl,rfl⟩|⟨rfl,rfl,rfl,rfl,rfl,rfl⟩|⟨rfl,rfl,rfl,rfl,rfl,rfl⟩
 all_goals
  go_enter Tryz.func102,Tryz.ntmps102
  go_wp2_with (first
   |(go_at_call 135;first|(with_reducible refine(c1 _).mono ?_;rintro e w1 ⟨rfl,rfl⟩)|(with_reducible refine(c2 _).mono ?_;rintro e w1 ⟨rfl,rfl⟩))
   |(go_at_call 136;refine(c3 _).mono ?_;rintro e w1 ⟨rfl,rfl⟩)
   |(go_at_call 137;refine(c6 _ (hb0 _)).mono ?_;rintro e w1 ⟨rfl,rfl⟩))
  go_ret
  exact⟨rfl,hb0 _⟩
def Ygk:List Int→List UInt8
 |[]=>[]
 |b::l=>49::(Yav b.toNat 8++Ygk l)
theorem Ysd:∀(l:List Int) (b:Int),Ygk (l++[b])=Ygk l++Yav 1 1++Yav b.toNat 8
 |[],b=>by simp[Ygk];rfl
 |c::l,b=>by rw[List.cons_append,Ygk,Ysd l b,Ygk];simp only[List.cons_append,List.append_assoc]
theorem Ymr:∀l:List Int,(Ygk l).length=9*l.length
 |[]=>rfl
 |b::l=>by rw[Ygk,List.length_cons,List.length_append,Yal,Ymr l,List.length_cons];omega
theorem Yxt:∀l:List Int,Ygk l++Yav 0 1=Yl1 l
 |[]=>rfl
 |b::l=>by rw[Ygk,Yl1,List.cons_append,List.append_assoc,Yxt l]
theorem Y54 {l:List Int}{j:Nat}(hj:j<l.length):Ygk (l.take j)++Yav 1 1++Yav (l.getD j 0).toNat 8=Ygk (l.take (j+1)):=by
 rw[List.take_succ_eq_append_getElem hj,Ysd,show l[j]=l.getD j 0 by simp[List.getD,hj]]
theorem Yfd {v n:Int}(h:0≤n∧n≤32)(h0:0≤v)(h1:v<2^n.toNat):Ydh v n=true:=by
 unfold Ydh;rw[decide_eq_true_iff];exact⟨h.1,h.2,h0,h1⟩
set_option maxHeartbeats 1000000 in
theorem Qfi (a:Addr)(h:Shd)(p:Option Addr)(cap:Nat)(rw_:Value)(z:Int)(hl:h.supp.length≤maxLen)(w:World)(hs:Ydw w p h.supp)(hm:Yej h=false):
  Calls Tryz.prog 71 #[.pointer (some a),.agg (Ya5 h (.slice p h.supp.length cap) rw_ z).toArray] w fun e w'=>e=.returned (.int .i64 12)∧Below w.heap.size w w':=by
 have c:=fun x (hx:Below w.heap.size w x)=>Ypr h p cap rw_ z hl x (hs.below hx);rw[hm] at c;obtain⟨ref,flags,fmt,inter,quant,supp⟩:=h;unfold Ya5 at *;dsimp only at *;have hb0:=fun o=>(Below.refl _ w).alloc (Nat.le_refl _) o;clear hm hs hl
 go_enter Tryz.func71,Tryz.ntmps71
 go_wp2_with fail
 refine(c _ (hb0 _)).mono ?_;rintro e w1 ⟨rfl,hb1⟩;have hb2:=(hb0 _).trans (hb1.mono (by simp))
 go_wp2
 go_ret
 exact⟨rfl,hb2⟩
set_option maxHeartbeats 4000000 in
theorem Qa5 (w:World)(B b:Nat)(r:List UInt8)(h:Shd)(p:Option Addr)(cap:Nat)(rw_:Value)(z:Int)(hs:∀x,w.grownBy x (some b)→Ydw x p h.supp)(hm:Yej h=true)(hw:Ycj w B b r)(hn:r.length+400≤1099511627776)(hB:B≤w.heap.size):
  Calls Tryz.prog 71 #[.pointer (some ⟨b,0,none⟩),.agg (Ya5 h (.slice p h.supp.length cap) rw_ z).toArray] w fun e w'=>e=.returned (.int .i64 0)∧Ycj w' B b (Yc3 r 0++Ydi h)∧w.grownBy w' (some b):=by
 obtain⟨⟨r1,r2,f1,f2,q1,q2⟩,⟨m1,m2⟩,hl8,hby⟩:=Yd2.1 hm;have c:=fun x (hx:Below w.heap.size w x)=>Ypr h p cap rw_ z (by unfold maxLen;omega) x (hs x (Yak hx _));rw[hm] at c;have hrow:Ydi h=Yku h++(Ygk h.supp++Yav 0 1):=by rw[Yxt];rfl
 unfold Yku Qi1 at hrow;obtain⟨ref,flags,fmt,inter,quant,supp⟩:=h;unfold Ya5 at *;dsimp only at *;have cn:=fun w=>Yml inter w;have hbit:0≤(if inter=true then (1:Int) else 0)∧(if inter=true then (1:Int) else 0)<2∧(if inter=true then (1:Nat) else 0)=(if inter=true then (1:Int) else 0).toNat:=by cases inter <;> decide
 obtain⟨i0,i1,i2⟩:=hbit;rw[i2] at hrow;generalize (if inter=true then (1:Int) else 0)=bi at cn i0 i1 hrow;clear i2;have G:=Y1o r.length;have hlen0:=Ygu r 0;have cm:=fun x (hx:Ycj x B b r) hz=>Yov x B b r 0 (by decide) hx (by omega) hz;have hbeh:r++List.replicate (gap r.length) 48++Ybq 0=Yc3 r 0:=rfl;rw[hbeh] at cm;obtain⟨R0,hR0⟩:∃R,Yc3 r 0=R:=⟨_,rfl⟩;rw[hR0] at cm hlen0 ⊢
 obtain⟨R1,hR1⟩:∃R,R0++Yav ref.toNat 8=R:=⟨_,rfl⟩;have hlen1:R1.length=R0.length+8:=by rw[←hR1,List.length_append,Yal]
 have F1:Hid (Ydh ref 8=true):=Lib.hid (Yfd (by omega) (by omega) (by show _<(2:Int)^8;omega));have E1:Hid (R0++Yav (ref:Int).toNat (8:Int).toNat=R1):=Lib.hid hR1;obtain⟨R2,hR2⟩:∃R,R1++Yav 2 2=R:=⟨_,rfl⟩;have hlen2:R2.length=R1.length+2:=by rw[←hR2,List.length_append,Yal]
 have F2:Hid (Ydh 2 2=true):=Lib.hid (Yfd (by omega) (by omega) (by show _<(2:Int)^2;omega));have E2:Hid (R1++Yav (2:Int).toNat (2:Int).toNat=R2):=Lib.hid hR2;obtain⟨R3,hR3⟩:∃R,R2++Yav flags.toNat 3=R:=⟨_,rfl⟩;have hlen3:R3.length=R2.length+3:=by rw[←hR3,List.length_append,Yal]
 have F3:Hid (Ydh flags 3=true):=Lib.hid (Yfd (by omega) (by omega) (by show _<(2:Int)^3;omega));have E3:Hid (R2++Yav (flags:Int).toNat (3:Int).toNat=R3):=Lib.hid hR3;obtain⟨R4,hR4⟩:∃R,R3++Yav fmt.toNat 3=R:=⟨_,rfl⟩;have hlen4:R4.length=R3.length+3:=by rw[←hR4,List.length_append,Yal]
 have F4:Hid (Ydh fmt 3=true):=Lib.hid (Yfd (by omega) (by omega) (by show _<(2:Int)^3;omega));have E4:Hid (R3++Yav (fmt:Int).toNat (3:Int).toNat=R4):=Lib.hid hR4;obtain⟨R5,hR5⟩:∃R,R4++Yav bi.toNat 1=R:=⟨_,rfl⟩;have hlen5:R5.length=R4.length+1:=by rw[←hR5,List.length_append,Yal]
 have F5:Hid (Ydh bi 1=true):=Lib.hid (Yfd (by omega) (by omega) (by show _<(2:Int)^1;omega));have E5:Hid (R4++Yav (bi:Int).toNat (1:Int).toNat=R5):=Lib.hid hR5;obtain⟨R6,hR6⟩:∃R,R5++Yav 0 4=R:=⟨_,rfl⟩;have hlen6:R6.length=R5.length+4:=by rw[←hR6,List.length_append,Yal]
 have F6:Hid (Ydh 0 4=true):=Lib.hid (Yfd (by omega) (by omega) (by show _<(2:Int)^4;omega));have E6:Hid (R5++Yav (0:Int).toNat (4:Int).toNat=R6):=Lib.hid hR6;obtain⟨R7,hR7⟩:∃R,R6++Yav quant.toNat 5=R:=⟨_,rfl⟩;have hlen7:R7.length=R6.length+5:=by rw[←hR7,List.length_append,Yal]
 have F7:Hid (Ydh quant 5=true):=Lib.hid (Yfd (by omega) (by omega) (by show _<(2:Int)^5;omega));have E7:Hid (R6++Yav (quant:Int).toNat (5:Int).toNat=R7):=Lib.hid hR7;obtain⟨R8,hR8⟩:∃R,R7++Yav 0 1=R:=⟨_,rfl⟩;have hlen8:R8.length=R7.length+1:=by rw[←hR8,List.length_append,Yal]
 have F8:Hid (Ydh 0 1=true):=Lib.hid (Yfd (by omega) (by omega) (by show _<(2:Int)^1;omega));have E8:Hid (R7++Yav (0:Int).toNat (1:Int).toNat=R8):=Lib.hid hR8;have FIN:Hid (R8++(Ygk supp++Yav 0 1)=R0++Ydi ⟨ref,flags,fmt,inter,quant,supp⟩):=Lib.hid (by
  rw[hrow,←hR8,←hR7,←hR6,←hR5,←hR4,←hR3,←hR2,←hR1];simp only[List.append_assoc])
 obtain⟨FR,hFR⟩:∃R,R0++Ydi ⟨ref,flags,fmt,inter,quant,supp⟩=R:=⟨_,rfl⟩;rw[hFR] at FIN ⊢;have SF:=fun j hj=>Y54 (l:=supp) (j:=j) hj;have SB:∀j,j<supp.length→0≤supp.getD j 0∧supp.getD j 0≤255:=fun j hj=>by
  rw[show supp.getD j 0=supp[j] by simp[List.getD,hj]];exact hby _ (List.getElem_mem hj)
 have SL:∀j,j≤supp.length→(Ygk (supp.take j)).length=9*j:=fun j hj=>by rw[Ymr,List.length_take];omega
 have SN:=Lib.hid (show supp.take supp.length=supp from List.take_length);have HSF:=Lib.hid SF;have HSB:=Lib.hid SB;have HSL:=Lib.hid SL;have hlt:b<w.heap.size:=hw.lt;clear hrow hFR hR1 hR2 hR3 hR4 hR5 hR6 hR7 hR8 hby hm hbeh hR0 SF SB SL;have F9:Hid (Ydh 1 1=true):=Lib.hid (by decide);have hb0:=fun o=>(Below.refl _ w).alloc (Nat.le_refl _) o;obtain⟨A,hA⟩:∃A,w.heap.size=A:=⟨_,rfl⟩
 go_enter Tryz.func71,Tryz.ntmps71
 go_wp2_with fail
 refine(c _ (hb0 _)).mono ?_;rintro e w1 ⟨rfl,hb1⟩;have hg1:w.grownBy w1 (some b):=Yak ((hb0 _).trans (hb1.mono (by simp))) _;have hw1:Ycj w1 B b r:=hw.below ((hb0 _).trans (hb1.mono (by simp)))
 have hh:w1.heap[A]? =some (.cells [.int .i64 ref,.int .i64 flags,.int .i64 fmt,.bool inter,.int .i64 quant,.slice p supp.length cap,rw_,.int .i64 z].toArray 39 (0,0)):=(hb1.block A (by simp;omega)).trans (hA▸heap_alloc_new w _);have hz1:A+1≤w1.heap.size:=by have:=hb1.size;simp at this;omega
 have hbA:b<A:=by omega
 clear hb1 hb0 c hw;have CL:Hid (∀x,w1.grownBy x (some b)→x.cell? ⟨A,0,none⟩=some (.int .i64 ref)∧x.cell? ⟨A,1,none⟩=some (.int .i64 flags)∧x.cell? ⟨A,2,none⟩=some (.int .i64 fmt)∧x.cell? ⟨A,3,none⟩=some (.bool inter)∧x.cell? ⟨A,4,none⟩=some (.int .i64 quant)∧x.cell? ⟨A,5,none⟩=some (.slice p supp.length cap)):=Lib.hid fun x hx=>by
  have h2:=(hx.block A (by omega) (by intro e;injection e with e;omega)).trans hh;exact⟨Yab h2 rfl,Yab h2 rfl,Yab h2 rfl,Yab h2 rfl,Yab h2 rfl,Yab h2 rfl⟩
 have HS:Hid (∀x,w1.grownBy x (some b)→Ydw x p supp):=Lib.hid fun x hx=>hs x (Yac hg1 hx);clear hh hs;generalize hp0:w1=x0 at hw1 ⊢;have hgx:w1.grownBy x0 (some b):=by rw[←hp0];exact Yak (Below.refl _ _) _
 have hzx:B≤x0.heap.size:=by rw[←hp0];omega
 clear hp0
 go_wp2_with fail
 refine(cm _ hw1 hzx).mono ?_;rintro e y0 ⟨rfl,hw2,hg2⟩;have hgy:=Yac hgx hg2;have hzy:B≤y0.heap.size:=Nat.le_trans hzx hg2.size;clear hw1 hg2 hgx hzx cm;obtain⟨k0,k1,k2,k3,k4,k5⟩:=CL.out _ hgy
 go_wp2_with fail
 refine(Yc6 _ B b _ ref 8 hw2 (by omega) F1.out (by omega) hzy).mono ?_;rintro e x0 ⟨rfl,hw3,hg2⟩;rw[E1.out] at hw3;have hgx:=Yac hgy hg2;have hzx:B≤x0.heap.size:=Nat.le_trans hzy hg2.size;clear hw2;have hw2:=hw3;clear hw3 hg2 hgy hzy k0 k1 k2 k3 k4 k5;obtain⟨k0,k1,k2,k3,k4,k5⟩:=CL.out _ hgx
 go_wp2_with fail
 refine(Yc6 _ B b _ 2 2 hw2 (by omega) F2.out (by omega) hzx).mono ?_;rintro e y0 ⟨rfl,hw3,hg2⟩;rw[E2.out] at hw3;have hgy:=Yac hgx hg2;have hzy:B≤y0.heap.size:=Nat.le_trans hzx hg2.size;clear hw2;have hw2:=hw3;clear hw3 hg2 hgx hzx k0 k1 k2 k3 k4 k5;obtain⟨k0,k1,k2,k3,k4,k5⟩:=CL.out _ hgy
 go_wp2_with fail
 refine(Yc6 _ B b _ flags 3 hw2 (by omega) F3.out (by omega) hzy).mono ?_;rintro e x0 ⟨rfl,hw3,hg2⟩;rw[E3.out] at hw3;have hgx:=Yac hgy hg2;have hzx:B≤x0.heap.size:=Nat.le_trans hzy hg2.size;clear hw2;have hw2:=hw3;clear hw3 hg2 hgy hzy k0 k1 k2 k3 k4 k5;obtain⟨k0,k1,k2,k3,k4,k5⟩:=CL.out _ hgx
 go_wp2_with fail
 refine(Yc6 _ B b _ fmt 3 hw2 (by omega) F4.out (by omega) hzx).mono ?_;rintro e y0 ⟨rfl,hw3,hg2⟩;rw[E4.out] at hw3;have hgy:=Yac hgx hg2;have hzy:B≤y0.heap.size:=Nat.le_trans hzx hg2.size;clear hw2;have hw2:=hw3;clear hw3 hg2 hgx hzx k0 k1 k2 k3 k4 k5;obtain⟨k0,k1,k2,k3,k4,k5⟩:=CL.out _ hgy
 go_wp2_with fail
 refine(cn _).mono ?_;rintro e u0 ⟨rfl,rfl⟩
 go_wp2_with fail
 refine(Yc6 _ B b _ bi 1 hw2 (by omega) F5.out (by omega) hzy).mono ?_;rintro e x0 ⟨rfl,hw3,hg2⟩;rw[E5.out] at hw3;have hgx:=Yac hgy hg2;have hzx:B≤x0.heap.size:=Nat.le_trans hzy hg2.size;clear hw2;have hw2:=hw3;clear hw3 hg2 hgy hzy k0 k1 k2 k3 k4 k5;obtain⟨k0,k1,k2,k3,k4,k5⟩:=CL.out _ hgx
 go_wp2_with fail
 refine(Yc6 _ B b _ 0 4 hw2 (by omega) F6.out (by omega) hzx).mono ?_;rintro e y0 ⟨rfl,hw3,hg2⟩;rw[E6.out] at hw3;have hgy:=Yac hgx hg2;have hzy:B≤y0.heap.size:=Nat.le_trans hzx hg2.size;clear hw2;have hw2:=hw3;clear hw3 hg2 hgx hzx k0 k1 k2 k3 k4 k5;obtain⟨k0,k1,k2,k3,k4,k5⟩:=CL.out _ hgy
 go_wp2_with fail
 refine(Yc6 _ B b _ quant 5 hw2 (by omega) F7.out (by omega) hzy).mono ?_;rintro e x0 ⟨rfl,hw3,hg2⟩;rw[E7.out] at hw3;have hgx:=Yac hgy hg2;have hzx:B≤x0.heap.size:=Nat.le_trans hzy hg2.size;clear hw2;have hw2:=hw3;clear hw3 hg2 hgy hzy k0 k1 k2 k3 k4 k5;obtain⟨k0,k1,k2,k3,k4,k5⟩:=CL.out _ hgx
 go_wp2_with fail
 refine(Yc6 _ B b _ 0 1 hw2 (by omega) F8.out (by omega) hzx).mono ?_;rintro e y0 ⟨rfl,hw3,hg2⟩;rw[E8.out] at hw3;have hgy:=Yac hgx hg2;have hzy:B≤y0.heap.size:=Nat.le_trans hzx hg2.size;clear hw2;have hw2:=hw3;clear hw3 hg2 hgx hzx k0 k1 k2 k3 k4 k5;obtain⟨k0,k1,k2,k3,k4,k5⟩:=CL.out _ hgy
 go_wp2
 clear k0 k1 k2 k3 k4 k5 cn F1 F2 F3 F4 F5 F6 F7 E1 E2 E3 E4 E5 E6 E7 hA
 go_loopw [44] (fun i wr=>∃j:Nat,j≤supp.length∧i=.int .i64 j∧Ycj wr B b (R8++Ygk (supp.take j))∧w1.grownBy wr (some b)∧B≤wr.heap.size) (fun i _=>supp.length-(RowKit.intOf i).toNat)
 case atStart=>exact⟨0,Nat.zero_le _,rfl,by rw[List.take_zero];show Ycj _ B b (R8++[]);rw[List.append_nil];exact hw2,hgy,hzy⟩
 case round=>
  clear hw2 hgy hzy;obtain⟨j,hj,rfl,hw2,hgy,hzy⟩:=hrel;have hlj:=HSL.out j hj;by_cases hlt:j<supp.length
  ·have t1:decide ((j:Int)<(supp.length:Int))=true:=by simp;omega
   obtain⟨b1,o1,rfl,hb1,hc1⟩:=(HS.out _ hgy).hold (by omega);have k0:=hc1 _ (Below.refl _ _) j hlt;obtain⟨v0,v1⟩:=HSB.out j hlt;have hsf:=HSF.out j hlt;clear HS HSB HSF HSL hc1;obtain⟨v,hv⟩:∃v,supp.getD j 0=v:=⟨_,rfl⟩;rw[hv] at k0 v0 v1 hsf;obtain⟨S0,hS0⟩:∃S,Ygk (supp.take j)=S:=⟨_,rfl⟩;obtain⟨S1,hS1⟩:∃S,Ygk (supp.take (j+1))=S:=⟨_,rfl⟩;rw[hS0,hS1] at hsf;rw[hS0] at hw2 hlj
   have FB:=Lib.hid (Yfd (v:=v) (n:=8) (by omega) v0 (by show _<(2:Int)^8;omega));have HS1:=Lib.hid hS1;have SQ:Hid (R8++S0++Yav (1:Int).toNat (1:Int).toNat++Yav v.toNat (8:Int).toNat=R8++S1):=Lib.hid (by rw[←hsf];simp only[List.append_assoc];rfl);clear hv hS0 hS1 hsf;have hS0l:(R8++S0).length≤r.length+200:=by rw[List.length_append];omega
   have hS1l:(R8++S0++Yav (1:Int).toNat (1:Int).toNat).length≤r.length+201:=by rw[List.length_append,Yal];have e:(1:Int).toNat=1:=rfl;omega
   go_wp2_with fail
   refine(Yc6 _ B b _ 1 1 hw2 (by omega) F9.out (by omega) hzy).mono ?_;rintro e x1 ⟨rfl,hw3,hg2⟩;have hgx:=Yac hgy hg2;have hzx:B≤x1.heap.size:=Nat.le_trans hzy hg2.size;clear hw2 hg2 hgy hzy k0
   go_wp2_with fail
   refine(Yc6 _ B b _ v 8 hw3 (by omega) FB.out (by omega) hzx).mono ?_;rintro e x2 ⟨rfl,hw4,hg2⟩;rw[SQ.out] at hw4;have hgy:=Yac hgx hg2;have hzy:B≤x2.heap.size:=Nat.le_trans hzx hg2.size;clear hw3 hg2 hgx hzx
   go_wp2
   go_roundw
   case rel=>exact⟨j+1,by omega,by go_num,by rw[HS1.out];exact hw4,hgy,hzy⟩
   case measure=>simp[RowKit.intOf];omega
  ·obtain rfl:supp.length=j:=by omega
   have t1:decide ((supp.length:Int)<(supp.length:Int))=false:=by simp
   rw[SN.out] at hw2 hlj;have FN:Hid (R8++Ygk supp++Yav (0:Int).toNat (1:Int).toNat=FR):=Lib.hid (by rw[←FIN.out];simp only[List.append_assoc];rfl);have hS0l:(R8++Ygk supp).length≤r.length+200:=by rw[List.length_append];omega
   clear HS HSB HSF HSL FIN
   go_wp2_with fail
   refine(Yc6 _ B b _ 0 1 hw2 (by omega) F8.out (by omega) hzy).mono ?_;rintro e x1 ⟨rfl,hw3,hg2⟩;rw[FN.out] at hw3;have hgx:=Yac hg1 (Yac hgy hg2);clear hw2 hg2 hgy hzy hg1
   go_wp2
   go_ret
   exact⟨rfl,hw3,hgx⟩
theorem Y5m {l:List UInt8}{p:Nat}(h:p%8≠0):Ycc l p=4:=if_pos h
theorem Y5l {l:List UInt8}{p:Nat}(h:p%8=0)(h2:(Yaz l p).2≠0):Ycc l p=(Yaz l p).2:=by
 unfold Ycc;rw[if_neg (by omega),if_pos h2]
theorem Yxi {l:List UInt8}{p:Nat}(h:p%8=0)(h2:(Yaz l p).2=0)(h1:(Yaz l p).1≠0):Ycc l p=4:=by
 unfold Ycc;rw[if_neg (by omega),if_neg (fun k=>k h2),if_pos h1]
theorem Qav {l:List UInt8}{p:Nat}(h:p%8=0)(h2:(Yaz l p).2=0)(h1:(Yaz l p).1=0):Ycc l p=0:=by
 unfold Ycc;rw[if_neg (by omega),if_neg (fun k=>k h2),if_neg (fun k=>k h1)]
def Yr5 (l:List UInt8)(p:Nat):Nat:=if Ycc l p=0 then p+22 else p
set_option maxHeartbeats 1000000 in
theorem Y5u (w:World)(b:Nat)(s:ByteArray)(p:Nat)(hr:Yba w b s p)(hs:s.size≤1099511627776):
  Calls Tryz.prog 173 #[.pointer (some ⟨b,0,none⟩)] w fun e w'=>e=.returned (.int .i64 (Ycc s.data.toList p))∧Yba w' b s (Yr5 s.data.toList p)∧w.grownBy w' (some b):=by
 have hp:=hr.2.1;have hsl:s.data.toList.length=s.size:=rfl;have hm:(p:Int).tmod 8=((p%8:Nat):Int):=by rw[Int.tmod_eq_emod_of_nonneg (by omega)];rfl
 have ca:=fun w=>Yb7 w b s p;by_cases h8:p%8=0
 ·have d8:((((p%8:Nat):Int)) != 0)=false:=by rw[h8];rfl
  have c1:=fun w=>Ytu w s (p:Int) hs;have iM:=fun h2=>Y5l (l:=s.data.toList) h8 h2;have iO:=fun h2 h1=>Yxi (l:=s.data.toList) h8 h2 h1;have iK:=fun h2 h1=>Qav (l:=s.data.toList) h8 h2 h1;have iz:=fun h=>Ypm (l:=s.data.toList) (p:=p) h;generalize p%8=m8 at hm d8;obtain⟨m,hmm⟩:∃m,(Yaz s.data.toList p).1=m:=⟨_,rfl⟩;obtain⟨f,hf⟩:∃f,(Yaz s.data.toList p).2=f:=⟨_,rfl⟩;rw[hmm,hf] at c1;rw[hf] at iM iO iK
  rw[hmm] at iO iK;unfold Yr5;obtain⟨S,hS⟩:∃S,Ycc s.data.toList p=S:=⟨_,rfl⟩;rw[hS] at iM iO iK iz ⊢;clear hS hmm hf h8;by_cases h2:f=0
  ·by_cases h1:m=0
   ·obtain rfl:=iK h2 h1;obtain⟨-,z2,-⟩:=iz rfl;have K:=Lib.hid (Yc8 (l:=s.data.toList) (p:=p) (n:=22) (by omega) (by omega));have T:Hid (Yc1 s.data.toList p 22=p+22):=Lib.hid (by unfold Yc1;rw[K.out];rfl);subst h2 h1;rw[if_pos rfl];clear iM iO iK iz z2 hp hsl
    go_enter Tryz.func173,Tryz.ntmps173
    go_wp2_with fail
    refine(ca _ hr).mono ?_;rintro e w1 ⟨rfl,rfl⟩
    go_wp2_with fail
    refine(Ydg _ _ _ _ hr).mono ?_;rintro e w1 ⟨rfl,rfl⟩
    go_wp2_with fail
    refine(ca _ hr).mono ?_;rintro e w1 ⟨rfl,rfl⟩
    go_wp2_with fail
    refine(c1 _).mono ?_;rintro e w1 ⟨rfl,hb1⟩;have hr1:=hr.below hb1;have hg1:=Yak hb1 (some b);clear hr hb1
    go_wp2_with fail
    refine(Ycz _ _ _ _ 22 hr1).mono ?_;rintro e w3 ⟨rfl,hr3,hg4⟩;rw[T.out] at hr3;rw[K.out]
    go_wp2
    go_ret
    exact⟨rfl,hr3,Yac hg1 hg4⟩
   ·obtain rfl:=iO h2 h1;have d1:(m != 0)=true:=by rw[bne_iff_ne];exact h1
    subst h2;rw[if_neg (by decide)];clear iM iO iK iz hp hsl h1
    go_enter Tryz.func173,Tryz.ntmps173
    go_wp2_with fail
    refine(ca _ hr).mono ?_;rintro e w1 ⟨rfl,rfl⟩
    go_wp2_with fail
    refine(Ydg _ _ _ _ hr).mono ?_;rintro e w1 ⟨rfl,rfl⟩
    go_wp2_with fail
    refine(ca _ hr).mono ?_;rintro e w1 ⟨rfl,rfl⟩
    go_wp2_with fail
    refine(c1 _).mono ?_;rintro e w1 ⟨rfl,hb1⟩
    go_wp2
    go_ret
    exact⟨rfl,hr.below hb1,Yak hb1 _⟩
  ·obtain rfl:=iM h2;have d2:(S != 0)=true:=by rw[bne_iff_ne];exact h2
   rw[if_neg h2];clear iM iO iK iz hp hsl h2
   go_enter Tryz.func173,Tryz.ntmps173
   go_wp2_with fail
   refine(ca _ hr).mono ?_;rintro e w1 ⟨rfl,rfl⟩
   go_wp2_with fail
   refine(Ydg _ _ _ _ hr).mono ?_;rintro e w1 ⟨rfl,rfl⟩
   go_wp2_with fail
   refine(ca _ hr).mono ?_;rintro e w1 ⟨rfl,rfl⟩
   go_wp2_with fail
   refine(c1 _).mono ?_;rintro e w1 ⟨rfl,hb1⟩
   go_wp2
   go_ret
   exact⟨rfl,hr.below hb1,Yak hb1 _⟩
 ·have d8:((((p%8:Nat):Int)) != 0)=true:=by rw[bne_iff_ne];omega
  unfold Yr5;rw[Y5m h8,if_neg (by decide)];generalize p%8=m8 at hm d8;clear h8 hp hsl
  go_enter Tryz.func173,Tryz.ntmps173
  go_wp2_with fail
  refine(ca _ hr).mono ?_;rintro e w1 ⟨rfl,rfl⟩
  go_wp2
  go_ret
  exact⟨rfl,hr,Yak (Below.refl _ _) _⟩
def Ygn (l:List UInt8)(e:Int)(q:Nat)(d:Int):Int:=if e=0 then (ask l q d).1 else 0
def Ygl (l:List UInt8)(e:Int)(q:Nat)(d:Int):Int:=if e=0 then (ask l q d).2 else e
def Ygm (l:List UInt8)(e:Int)(q:Nat)(d:Int):Nat:=if e=0 then Yc1 l q d else q
structure Cap (w:World) (X Y b:Nat) (s:ByteArray) (e:Int) (q:Nat):Prop where
 wrong:w.heap[X]? =some (.cells [.int .i64 e].toArray 27 (0,0))
 box:w.heap[Y]? =some (.cells [.pointer (some ⟨b,0,none⟩)].toArray 54 (0,0))
 rd:Yba w b s q
 apart:X≠Y∧X≠b∧Y≠b
theorem Cap.set {w:World}{X Y b:Nat}{s:ByteArray}{e:Int}{q:Nat}(h:Cap w X Y b s e q)(a:Addr)(v:Value)(ha:a.block≠X∧a.block≠Y∧a.block≠b):Cap (w.setCell a v) X Y b s e q:=
 ⟨(Below.heap_setCell _ _ _ _ (by omega)).trans h.wrong,(Below.heap_setCell _ _ _ _ (by omega)).trans h.box,⟨(Below.heap_setCell _ _ _ _ (by omega)).trans h.rd.1,h.rd.2⟩,h.apart⟩
set_option maxHeartbeats 1000000 in
theorem Ydt (w:World)(X Y b:Nat)(s:ByteArray)(e:Int)(q:Nat)(d:Int)(h:Cap w X Y b s e q):
  Calls Tryz.prog 174 #[.int .i64 d,.pointer (some ⟨X,0,none⟩),.pointer (some ⟨Y,0,none⟩)] w fun r w'=>r=.returned (.int .i64 (Ygn s.data.toList e q d))∧Cap w' X Y b s (Ygl s.data.toList e q d) (Ygm s.data.toList e q d)∧Ybn X b w w':=by
 have k0:w.cell? ⟨X,0,none⟩=some (.int .i64 e):=Yab h.wrong rfl;have k1:w.cell? ⟨Y,0,none⟩=some (.pointer (some ⟨b,0,none⟩)):=Yab h.box rfl;obtain⟨n1,n2,n3⟩:=h.apart;have HC:=Lib.hid h;unfold Ygn Ygl Ygm;by_cases he:e=0
 ·rw[if_pos he,if_pos he,if_pos he];subst he;have c:=fun w hr=>Ycz w b s q d hr;generalize (ask s.data.toList q d).1=v at *;generalize (ask s.data.toList q d).2=f at *;generalize Yc1 s.data.toList q d=q2 at *;clear h
  go_enter Tryz.func174,Tryz.ntmps174
  go_wp2_with fail
  refine(c _ HC.out.rd).mono ?_;rintro e w1 ⟨rfl,hr1,hg1⟩;have hX:w1.heap[X]? =some (.cells [.int .i64 0].toArray 27 (0,0)):=(hg1.block X (Array.getElem?_eq_some_iff.1 HC.out.wrong).1 (by intro e;injection e with e;omega)).trans HC.out.wrong;have hY:=(hg1.block Y (Array.getElem?_eq_some_iff.1 HC.out.box).1 (by intro e;injection e with e;omega)).trans HC.out.box
  have kx:w1.cell? ⟨X,0,none⟩=some (.int .i64 0):=Yab hX rfl;have fx:w1.frozen? ⟨X,0,none⟩=false:=Yai hX;clear k0 k1
  go_wp2
  go_ret
  refine⟨rfl,⟨Yau (.int .i64 f) hX,(Below.heap_setCell _ _ _ _ (by show Y≠X;omega)).trans hY,⟨(Below.heap_setCell _ _ _ _ (by show b≠X;omega)).trans hr1.1,hr1.2⟩,n1,n2,n3⟩,(Ybn.grown hg1 (.inr rfl)).trans (Ybn.set _ (.inl rfl))⟩
 ·rw[if_neg he,if_neg he,if_neg he];have d1:(e != 0)=true:=by rw[bne_iff_ne];exact he
  clear h he
  go_enter Tryz.func174,Tryz.ntmps174
  go_wp2
  go_ret
  exact⟨rfl,HC.out,Ybn.refl _ _ _⟩
def Ym3 (e:Int)(holds:Bool)(fault:Int):Int:=if e=0∧holds=false then fault else e
set_option maxHeartbeats 1000000 in
theorem Ygj (w:World)(X Y b:Nat)(s:ByteArray)(e:Int)(q:Nat)(holds:Bool)(fault:Int)(h:Cap w X Y b s e q):
  Calls Tryz.prog 175 #[.bool holds,.int .i64 fault,.pointer (some ⟨X,0,none⟩)] w fun r w'=>r=.returned (.tuple #[])∧Cap w' X Y b s (Ym3 e holds fault) q∧Ybn X b w w':=by
 have k0:w.cell? ⟨X,0,none⟩=some (.int .i64 e):=Yab h.wrong rfl;have f0:w.frozen? ⟨X,0,none⟩=false:=Yai h.wrong;obtain⟨n1,n2,n3⟩:=h.apart;have HC:=Lib.hid h;unfold Ym3;by_cases he:e=0
 ·subst he;cases holds with
  |true=>
   rw[if_neg (by simp)];clear h
   go_enter Tryz.func175,Tryz.ntmps175
   go_wp2
   go_end0
   exact⟨rfl,HC.out,Ybn.refl _ _ _⟩
  |false=>
   rw[if_pos (by simp)];clear h
   go_enter Tryz.func175,Tryz.ntmps175
   go_wp2
   go_end0
   refine⟨rfl,⟨Yau (.int .i64 fault) HC.out.wrong,(Below.heap_setCell _ _ _ _ (by show Y≠X;omega)).trans HC.out.box,⟨(Below.heap_setCell _ _ _ _ (by show b≠X;omega)).trans HC.out.rd.1,HC.out.rd.2⟩,n1,n2,n3⟩,Ybn.set _ (.inl rfl)⟩
 ·rw[if_neg (by omega)];have d1:(e==0)=false:=by rw[beq_eq_false_iff_ne];exact he
  clear h he
  go_enter Tryz.func175,Tryz.ntmps175
  go_wp2
  go_end0
  exact⟨rfl,HC.out,Ybn.refl _ _ _⟩
end Go.Proofs.YtjjmalchelniiaaGreatDoor