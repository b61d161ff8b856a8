/- No condition. -/
import Derived.Test.YtndbeacoaimdgaaDoorQuantsGoMg
import Derived.Test.YtndbeacoaimdgaaDoorQuantsGoMi
import Derived.Test.YtndbeacoaimdgaaDoorQuantsGoMm
import Derived.Test.YtndbeacoaimdgaaDoorQuantsGoMn
import Derived.Test.YtndbeacoaimdgaaDoorQuantsGoMp
import Derived.Test.YtndbeacoaimdgaaDoorQuantsGoMq
namespace Go.Proofs.YtndbeacoaimdgaaDoor
open Go.RowKit Go.Lib
def Ygb (n:Int)(d:Nat):Bool:=decide (0≤n∧n<2^d)
set_option maxHeartbeats 1000000 in
theorem Ye3 (n:Int)(w:World):
  Calls Tryd.prog 63 #[.int .i64 n,.int .i64 8] w fun e w'=>e=.returned (.bool (Ygb n 8))∧w=w':=by
 by_cases h0:0≤n
 ·have e:decide (n<256)=Ygb n 8:=by
   unfold Ygb;rw[decide_eq_decide];omega
  go_enter Tryd.func63,Tryd.ntmps63
  go_wp2
  go_ret
  exact⟨rfl,rfl⟩
 ·rw[show Ygb n 8=false from decide_eq_false (by omega)]
  go_enter Tryd.func63,Tryd.ntmps63
  go_wp2
  go_ret
  exact⟨rfl,rfl⟩
set_option maxHeartbeats 1000000 in
theorem Yij (n:Int)(w:World):
  Calls Tryd.prog 63 #[.int .i64 n,.int .i64 3] w fun e w'=>e=.returned (.bool (Ygb n 3))∧w=w':=by
 by_cases h0:0≤n
 ·have e:decide (n<8)=Ygb n 3:=by
   unfold Ygb;rw[decide_eq_decide];omega
  go_enter Tryd.func63,Tryd.ntmps63
  go_wp2
  go_ret
  exact⟨rfl,rfl⟩
 ·rw[show Ygb n 3=false from decide_eq_false (by omega)]
  go_enter Tryd.func63,Tryd.ntmps63
  go_wp2
  go_ret
  exact⟨rfl,rfl⟩
set_option maxHeartbeats 1000000 in
theorem Yhn (k:Int)(w:World):
  Calls Tryd.prog 64 #[.int .i64 k] w fun e w'=>e=.returned (.bool (Yep k))∧w=w':=by
 have c:=fun w=>Yfm k w
 go_enter Tryd.func64,Tryd.ntmps64
 go_wp2_with fail
 refine(c _).mono ?_;rintro e w1 ⟨rfl,rfl⟩
 go_wp2
 go_ret
 exact⟨rfl,rfl⟩
set_option maxHeartbeats 1000000 in
theorem Yhq (b:Bool)(w:World):
  Calls Tryd.prog 53 #[.bool b] w fun e w'=>e=.returned (.int .i64 (if b then 1 else 0))∧w=w':=by
 cases b with
 |true=>
  go_enter Tryd.func53,Tryd.ntmps53
  go_wp2
  go_ret
  exact⟨rfl,rfl⟩
 |false=>
  go_enter Tryd.func53,Tryd.ntmps53
  go_wp2
  go_ret
  exact⟨rfl,rfl⟩
def Ybu (l:List Int):Bool:=decide (l.length≤8)&&l.all Yce
theorem Yht {l:List Int}(h:8<l.length):Ybu l=false:=by
 unfold Ybu;rw[decide_eq_false (by omega)];rfl
theorem Ym0 (x:Int):Ygb x 8=Yce x:=by
 unfold Ygb Yce;rw[decide_eq_decide];omega
theorem Yin {l:List Int}(h8:¬ 8<l.length)(h:l.all Yce=true):Ybu l=true:=by
 unfold Ybu;rw[decide_eq_true (by omega),h];rfl
theorem Ykg {l:List Int}{j:Nat}(hj:j<l.length)(h:Yce (l.getD j 0)=false):Ybu l=false:=by
 unfold Ybu;rw[Bool.and_eq_false_iff]
 right
 rw[List.all_eq_false];refine⟨l[j],List.getElem_mem hj,?_⟩;rw[show l.getD j 0=l[j] by simp[List.getD,hj]] at h;rw[h];decide
theorem Yjg {l:List Int}{j:Nat}(hj:j<l.length)(h:(l.take j).all Yce=true)(h2:Yce (l.getD j 0)=true):(l.take (j+1)).all Yce=true:=by
 rw[show l.getD j 0=l[j] by simp[List.getD,hj]] at h2;rw[List.take_succ_eq_append_getElem hj,List.all_append,h,List.all_cons,h2]
 rfl
set_option maxHeartbeats 1000000 in
theorem Ykb (p:Option Addr)(l:List Int)(cap:Nat)(hl:l.length≤maxLen)(w:World)(h:Ya9 w p l):
  Calls Tryd.prog 65 #[.slice p l.length cap] w fun e w'=>e=.returned (.bool (Ybu l))∧w=w':=by
 unfold maxLen at hl;by_cases h8:8<l.length
 ·have t0:decide (8<(l.length:Int))=true:=by simp;omega
  rw[Yht h8];generalize l.length=n at *;clear h h8
  go_enter Tryd.func65,Tryd.ntmps65
  go_wp2
  go_ret
  exact⟨rfl,rfl⟩
 ·have t0:decide (8<(l.length:Int))=false:=by simp;omega
  have yes:=fun h=>Yin (l:=l) h8 h;have no:=fun j hj h=>Ykg (l:=l) (j:=j) hj h;obtain⟨S,hS⟩:∃S,Ybu l=S:=⟨_,rfl⟩;rw[hS] at yes no ⊢;have YES:=Lib.hid yes;have NO:=Lib.hid no;have c:=fun n w=>Ye3 n w;simp only[Ym0] at c;have HL:=fun h0=>h.hold h0;clear h h8 hS yes no
  go_enter Tryd.func65,Tryd.ntmps65
  go_wp2
  go_loop [10] (fun i=>∃j:Nat,j≤l.length∧i=.int .i64 j∧Hid ((l.take j).all Yce=true)) (fun i=>l.length-(intOf i).toNat)
  case atStart=>exact⟨0,Nat.zero_le _,rfl,Lib.hid rfl⟩
  case round=>
   obtain⟨j,hj,rfl,ha⟩:=hrel;by_cases hlt:j<l.length
   ·have t1:decide ((j:Int)<(l.length:Int))=true:=by simp;omega
    obtain⟨b,o,rfl,hb,hc⟩:=HL (by omega);have k0:=hc w (Below.refl _ w) j hlt;have hM:=fun h=>Yjg hlt ha.out h;have hN:=NO.out j hlt;clear hc HL YES NO;generalize l.getD j 0=x at *;cases hx:Yce x with
    |true=>
     have M:=Lib.hid (hM hx);clear hM hN
     go_wp2_with fail
     refine(c _ _).mono ?_;rintro e w1 ⟨rfl,rfl⟩;rw[hx]
     go_wp2
     go_round
     case rel=>exact⟨j+1,by omega,by go_num,M⟩
     case measure=>simp[intOf];omega
    |false=>
     have N:=Lib.hid (hN hx);clear hM hN
     go_wp2_with fail
     refine(c _ _).mono ?_;rintro e w1 ⟨rfl,rfl⟩;rw[hx]
     go_wp2
     go_ret
     exact⟨by rw[N.out];rfl,rfl⟩
   ·obtain rfl:l.length=j:=by omega
    have t1:decide ((l.length:Int)<(l.length:Int))=false:=by simp
    have Y:=Lib.hid (YES.out (by have:=ha.out;rwa [List.take_length] at this));clear HL YES NO ha
    go_wp2
    go_ret
    exact⟨by rw[Y.out];rfl,rfl⟩
def Yas (h:Shd)(sl rw:Value)(z:Int):List Value:=[.int .i64 h.ref,.int .i64 h.flags,.int .i64 h.fmt,.bool h.inter,.int .i64 h.quant,sl,rw,.int .i64 z]
theorem Ymf (h:Shd)(p q:Option Addr)(n m c d:Nat)(z:Int):(Yas h (.slice p n c) (.slice q m d) z).toArray.all (·.oneCell')=true:=by simp[Yas,Value.oneCell']
theorem Yo5 (h:Shd):Ybt h=(Ygb h.ref 8&&(Ygb h.flags 3&&(Yep h.fmt&&(decide (1≤h.quant)&&(decide (h.quant≤31)&&Ybu h.supp))))):=by
 have e:decide (0≤h.ref∧h.ref≤255∧0≤h.flags∧h.flags≤7∧1≤h.quant∧h.quant≤31)=(Ygb h.ref 8&&(Ygb h.flags 3&&(decide (1≤h.quant)&&decide (h.quant≤31)))):=by
  rw[Bool.eq_iff_iff];unfold Ygb;simp only[Bool.and_eq_true,decide_eq_true_iff];omega
 unfold Ybt Ybu;rw[e];cases Ygb h.ref 8 <;> cases Ygb h.flags 3 <;> cases Yep h.fmt <;> cases decide (1≤h.quant) <;> cases decide (h.quant≤31) <;> rfl
set_option maxHeartbeats 2000000 in
theorem Ye4 (h:Shd)(p:Option Addr)(cap:Nat)(rw_:Value)(z:Int)(hl:h.supp.length≤maxLen)(w:World)(hs:Ya9 w p h.supp):
  Calls Tryd.prog 50 #[.agg (Yas h (.slice p h.supp.length cap) rw_ z).toArray] w fun e w'=>e=.returned (.bool (Ybt h))∧Below w.heap.size w w':=by
 have c6:=fun x (hx:Below w.heap.size w x)=>Ykb p h.supp cap hl x (hs.below hx);rw[Yo5];obtain⟨ref,flags,fmt,inter,quant,supp⟩:=h;have c1:=fun w=>Ye3 ref w;have c2:=fun w=>Yij flags w;have c3:=fun w=>Yhn fmt w;unfold Yas;dsimp only at c6 ⊢;obtain⟨b1,h1⟩:∃b,Ygb ref 8=b:=⟨_,rfl⟩;obtain⟨b2,h2⟩:∃b,Ygb flags 3=b:=⟨_,rfl⟩;obtain⟨b3,h3⟩:∃b,Yep fmt=b:=⟨_,rfl⟩;obtain⟨b4,h4⟩:∃b,decide (1≤quant)=b:=⟨_,rfl⟩
 obtain⟨b5,h5⟩:∃b,decide (quant≤31)=b:=⟨_,rfl⟩;obtain⟨b6,h6⟩:∃b,Ybu supp=b:=⟨_,rfl⟩;rw[h1] at c1;rw[h2] at c2;rw[h3] at c3;rw[h6] at c6;rw[h1,h2,h3,h4,h5,h6]
 have hB:b1=false∨(b1=true∧b2=false)∨(b1=true∧b2=true∧b3=false)∨(b1=true∧b2=true∧b3=true∧b4=false)∨(b1=true∧b2=true∧b3=true∧b4=true∧b5=false)∨(b1=true∧b2=true∧b3=true∧b4=true∧b5=true∧b6=false)∨(b1=true∧b2=true∧b3=true∧b4=true∧b5=true∧b6=true):=by
  revert b1 b2 b3 b4 b5 b6;intro b1 _ _ b2 _ _ b3 _ _ b4 _ b5 _ b6 _ _;cases b1 <;> cases b2 <;> cases b3 <;> cases b4 <;> cases b5 <;> cases b6 <;> simp
 clear h1 h2 h3 h6 hl hs;have hb0:=fun o=>(Below.refl _ w).alloc (Nat.le_refl _) o;rcases hB with rfl|⟨rfl,rfl⟩|⟨rfl,rfl,rfl⟩|⟨rfl,rfl,rfl,rfl⟩|⟨rfl,rfl,rfl,rfl,rfl⟩|⟨rfl,rfl,rfl,rfl,rfl,rfl⟩|⟨rfl,rfl,rfl,rfl,rfl,rfl⟩
 all_goals
  go_enter Tryd.func50,Tryd.ntmps50
  go_wp2_with (first
   |(go_at_call 63;first|(with_reducible refine(c1 _).mono ?_;rintro e w1 ⟨rfl,rfl⟩)|(with_reducible refine(c2 _).mono ?_;rintro e w1 ⟨rfl,rfl⟩))
   |(go_at_call 64;refine(c3 _).mono ?_;rintro e w1 ⟨rfl,rfl⟩)
   |(go_at_call 65;refine(c6 _ (hb0 _)).mono ?_;rintro e w1 ⟨rfl,rfl⟩))
  go_ret
  exact⟨rfl,hb0 _⟩
def Yb7:List Int→List UInt8
 |[]=>[]
 |b::l=>49::(Yal b.toNat 8++Yb7 l)
theorem Yfy:∀(l:List Int) (b:Int),Yb7 (l++[b])=Yb7 l++Yal 1 1++Yal b.toNat 8
 |[],b=>by simp[Yb7];rfl
 |c::l,b=>by rw[List.cons_append,Yb7,Yfy l b,Yb7];simp only[List.cons_append,List.append_assoc]
theorem Yd2:∀l:List Int,(Yb7 l).length=9*l.length
 |[]=>rfl
 |b::l=>by rw[Yb7,List.length_cons,List.length_append,Yai,Yd2 l,List.length_cons];omega
theorem Yhu:∀l:List Int,Yb7 l++Yal 0 1=Yn1 l
 |[]=>rfl
 |b::l=>by rw[Yb7,Yn1,List.cons_append,List.append_assoc,Yhu l]
theorem Ykh {l:List Int}{j:Nat}(hj:j<l.length):Yb7 (l.take j)++Yal 1 1++Yal (l.getD j 0).toNat 8=Yb7 (l.take (j+1)):=by
 rw[List.take_succ_eq_append_getElem hj,Yfy,show l[j]=l.getD j 0 by simp[List.getD,hj]]
theorem Ybl {v n:Int}(h:0≤n∧n≤32)(h0:0≤v)(h1:v<2^n.toNat):Ya7 v n=true:=by
 unfold Ya7;rw[decide_eq_true_iff];exact⟨h.1,h.2,h0,h1⟩
set_option maxHeartbeats 1000000 in
theorem Ynz (a:Addr)(h:Shd)(p:Option Addr)(cap:Nat)(rw_:Value)(z:Int)(hl:h.supp.length≤maxLen)(w:World)(hs:Ya9 w p h.supp)(hm:Ybt h=false):
  Calls Tryd.prog 39 #[.pointer (some a),.agg (Yas h (.slice p h.supp.length cap) rw_ z).toArray] w fun e w'=>e=.returned (.int .i64 12)∧Below w.heap.size w w':=by
 have c:=fun x (hx:Below w.heap.size w x)=>Ye4 h p cap rw_ z hl x (hs.below hx);rw[hm] at c;obtain⟨ref,flags,fmt,inter,quant,supp⟩:=h;unfold Yas at *;dsimp only at *;have hb0:=fun o=>(Below.refl _ w).alloc (Nat.le_refl _) o;clear hm hs hl
 go_enter Tryd.func39,Tryd.ntmps39
 go_wp2_with fail
 refine(c _ (hb0 _)).mono ?_;rintro e w1 ⟨rfl,hb1⟩;have hb2:=(hb0 _).trans (hb1.mono (by simp))
 go_wp2
 go_ret
 exact⟨rfl,hb2⟩
set_option maxHeartbeats 4000000 in
theorem Yo9 (w:World)(B b:Nat)(r:List UInt8)(h:Shd)(p:Option Addr)(cap:Nat)(rw_:Value)(z:Int)(hs:∀x,w.grownBy x (some b)→Ya9 x p h.supp)(hm:Ybt h=true)(hw:Ybw w B b r)(hn:r.length+400≤1099511627776)(hB:B≤w.heap.size):
  Calls Tryd.prog 39 #[.pointer (some ⟨b,0,none⟩),.agg (Yas h (.slice p h.supp.length cap) rw_ z).toArray] w fun e w'=>e=.returned (.int .i64 0)∧Ybw w' B b (Ygx r 0++Yi7 h)∧w.grownBy w' (some b):=by
 obtain⟨⟨r1,r2,f1,f2,q1,q2⟩,⟨m1,m2⟩,hl8,hby⟩:=Yfx.1 hm;have c:=fun x (hx:Below w.heap.size w x)=>Ye4 h p cap rw_ z (by unfold maxLen;omega) x (hs x (Yaj hx _));rw[hm] at c;have hrow:Yi7 h=Yme h++(Yb7 h.supp++Yal 0 1):=by rw[Yhu];rfl
 unfold Yme bitL at hrow;obtain⟨ref,flags,fmt,inter,quant,supp⟩:=h;unfold Yas at *;dsimp only at *;have cn:=fun w=>Yhq inter w;have hbit:0≤(if inter=true then (1:Int) else 0)∧(if inter=true then (1:Int) else 0)<2∧(if inter=true then (1:Nat) else 0)=(if inter=true then (1:Int) else 0).toNat:=by cases inter <;> decide
 obtain⟨i0,i1,i2⟩:=hbit;rw[i2] at hrow;generalize (if inter=true then (1:Int) else 0)=bi at cn i0 i1 hrow;clear i2;have G:=Yn7 r.length;have hlen0:=Yf8 r 0;have cm:=fun x (hx:Ybw x B b r) hz=>Ylo x B b r 0 (by decide) hx (by omega) hz;have hbeh:r++List.replicate (gap r.length) 48++Yes 0=Ygx r 0:=rfl;rw[hbeh] at cm;obtain⟨R0,hR0⟩:∃R,Ygx r 0=R:=⟨_,rfl⟩;rw[hR0] at cm hlen0 ⊢
 obtain⟨R1,hR1⟩:∃R,R0++Yal ref.toNat 8=R:=⟨_,rfl⟩;have hlen1:R1.length=R0.length+8:=by rw[←hR1,List.length_append,Yai]
 have F1:Hid (Ya7 ref 8=true):=Lib.hid (Ybl (by omega) (by omega) (by show _<(2:Int)^8;omega));have E1:Hid (R0++Yal (ref:Int).toNat (8:Int).toNat=R1):=Lib.hid hR1;obtain⟨R2,hR2⟩:∃R,R1++Yal 2 2=R:=⟨_,rfl⟩;have hlen2:R2.length=R1.length+2:=by rw[←hR2,List.length_append,Yai]
 have F2:Hid (Ya7 2 2=true):=Lib.hid (Ybl (by omega) (by omega) (by show _<(2:Int)^2;omega));have E2:Hid (R1++Yal (2:Int).toNat (2:Int).toNat=R2):=Lib.hid hR2;obtain⟨R3,hR3⟩:∃R,R2++Yal flags.toNat 3=R:=⟨_,rfl⟩;have hlen3:R3.length=R2.length+3:=by rw[←hR3,List.length_append,Yai]
 have F3:Hid (Ya7 flags 3=true):=Lib.hid (Ybl (by omega) (by omega) (by show _<(2:Int)^3;omega));have E3:Hid (R2++Yal (flags:Int).toNat (3:Int).toNat=R3):=Lib.hid hR3;obtain⟨R4,hR4⟩:∃R,R3++Yal fmt.toNat 3=R:=⟨_,rfl⟩;have hlen4:R4.length=R3.length+3:=by rw[←hR4,List.length_append,Yai]
 have F4:Hid (Ya7 fmt 3=true):=Lib.hid (Ybl (by omega) (by omega) (by show _<(2:Int)^3;omega));have E4:Hid (R3++Yal (fmt:Int).toNat (3:Int).toNat=R4):=Lib.hid hR4;obtain⟨R5,hR5⟩:∃R,R4++Yal bi.toNat 1=R:=⟨_,rfl⟩;have hlen5:R5.length=R4.length+1:=by rw[←hR5,List.length_append,Yai]
 have F5:Hid (Ya7 bi 1=true):=Lib.hid (Ybl (by omega) (by omega) (by show _<(2:Int)^1;omega));have E5:Hid (R4++Yal (bi:Int).toNat (1:Int).toNat=R5):=Lib.hid hR5;obtain⟨R6,hR6⟩:∃R,R5++Yal 0 4=R:=⟨_,rfl⟩;have hlen6:R6.length=R5.length+4:=by rw[←hR6,List.length_append,Yai]
 have F6:Hid (Ya7 0 4=true):=Lib.hid (Ybl (by omega) (by omega) (by show _<(2:Int)^4;omega));have E6:Hid (R5++Yal (0:Int).toNat (4:Int).toNat=R6):=Lib.hid hR6;obtain⟨R7,hR7⟩:∃R,R6++Yal quant.toNat 5=R:=⟨_,rfl⟩;have hlen7:R7.length=R6.length+5:=by rw[←hR7,List.length_append,Yai]
 have F7:Hid (Ya7 quant 5=true):=Lib.hid (Ybl (by omega) (by omega) (by show _<(2:Int)^5;omega));have E7:Hid (R6++Yal (quant:Int).toNat (5:Int).toNat=R7):=Lib.hid hR7;obtain⟨R8,hR8⟩:∃R,R7++Yal 0 1=R:=⟨_,rfl⟩;have hlen8:R8.length=R7.length+1:=by rw[←hR8,List.length_append,Yai]
 have F8:Hid (Ya7 0 1=true):=Lib.hid (Ybl (by omega) (by omega) (by show _<(2:Int)^1;omega));have E8:Hid (R7++Yal (0:Int).toNat (1:Int).toNat=R8):=Lib.hid hR8;have FIN:Hid (R8++(Yb7 supp++Yal 0 1)=R0++Yi7 ⟨ref,flags,fmt,inter,quant,supp⟩):=Lib.hid (by
  rw[hrow,←hR8,←hR7,←hR6,←hR5,←hR4,←hR3,←hR2,←hR1];simp only[List.append_assoc])
 obtain⟨FR,hFR⟩:∃R,R0++Yi7 ⟨ref,flags,fmt,inter,quant,supp⟩=R:=⟨_,rfl⟩;rw[hFR] at FIN ⊢;have SF:=fun j hj=>Ykh (l:=supp) (j:=j) hj;have SB:∀j,j<supp.length→0≤supp.getD j 0∧supp.getD j 0≤255:=fun j hj=>by
  rw[show supp.getD j 0=supp[j] by simp[List.getD,hj]];exact hby _ (List.getElem_mem hj)
 have SL:∀j,j≤supp.length→(Yb7 (supp.take j)).length=9*j:=fun j hj=>by rw[Yd2,List.length_take];omega
 have SN:=Lib.hid (show supp.take supp.length=supp from List.take_length);have HSF:=Lib.hid SF;have HSB:=Lib.hid SB;have HSL:=Lib.hid SL;have hlt:b<w.heap.size:=hw.lt;clear hrow hFR hR1 hR2 hR3 hR4 hR5 hR6 hR7 hR8 hby hm hbeh hR0 SF SB SL;have F9:Hid (Ya7 1 1=true):=Lib.hid (by decide);have hb0:=fun o=>(Below.refl _ w).alloc (Nat.le_refl _) o;obtain⟨A,hA⟩:∃A,w.heap.size=A:=⟨_,rfl⟩
 go_enter Tryd.func39,Tryd.ntmps39
 go_wp2_with fail
 refine(c _ (hb0 _)).mono ?_;rintro e w1 ⟨rfl,hb1⟩;have hg1:w.grownBy w1 (some b):=Yaj ((hb0 _).trans (hb1.mono (by simp))) _;have hw1:Ybw w1 B b r:=hw.below ((hb0 _).trans (hb1.mono (by simp)))
 have hh:w1.heap[A]? =some (.cells [.int .i64 ref,.int .i64 flags,.int .i64 fmt,.bool inter,.int .i64 quant,.slice p supp.length cap,rw_,.int .i64 z].toArray 25 (0,0)):=(hb1.block A (by simp;omega)).trans (hA▸heap_alloc_new w _);have hz1:A+1≤w1.heap.size:=by have:=hb1.size;simp at this;omega
 have hbA:b<A:=by omega
 clear hb1 hb0 c hw;have CL:Hid (∀x,w1.grownBy x (some b)→x.cell? ⟨A,0,none⟩=some (.int .i64 ref)∧x.cell? ⟨A,1,none⟩=some (.int .i64 flags)∧x.cell? ⟨A,2,none⟩=some (.int .i64 fmt)∧x.cell? ⟨A,3,none⟩=some (.bool inter)∧x.cell? ⟨A,4,none⟩=some (.int .i64 quant)∧x.cell? ⟨A,5,none⟩=some (.slice p supp.length cap)):=Lib.hid fun x hx=>by
  have h2:=(hx.block A (by omega) (by intro e;injection e with e;omega)).trans hh;exact⟨Yab h2 rfl,Yab h2 rfl,Yab h2 rfl,Yab h2 rfl,Yab h2 rfl,Yab h2 rfl⟩
 have HS:Hid (∀x,w1.grownBy x (some b)→Ya9 x p supp):=Lib.hid fun x hx=>hs x (Yae hg1 hx);clear hh hs;generalize hp0:w1=x0 at hw1 ⊢;have hgx:w1.grownBy x0 (some b):=by rw[←hp0];exact Yaj (Below.refl _ _) _
 have hzx:B≤x0.heap.size:=by rw[←hp0];omega
 clear hp0
 go_wp2_with fail
 refine(cm _ hw1 hzx).mono ?_;rintro e y0 ⟨rfl,hw2,hg2⟩;have hgy:=Yae hgx hg2;have hzy:B≤y0.heap.size:=Nat.le_trans hzx hg2.size;clear hw1 hg2 hgx hzx cm;obtain⟨k0,k1,k2,k3,k4,k5⟩:=CL.out _ hgy
 go_wp2_with fail
 refine(Ya2 _ B b _ ref 8 hw2 (by omega) F1.out (by omega) hzy).mono ?_;rintro e x0 ⟨rfl,hw3,hg2⟩;rw[E1.out] at hw3;have hgx:=Yae hgy hg2;have hzx:B≤x0.heap.size:=Nat.le_trans hzy hg2.size;clear hw2;have hw2:=hw3;clear hw3 hg2 hgy hzy k0 k1 k2 k3 k4 k5;obtain⟨k0,k1,k2,k3,k4,k5⟩:=CL.out _ hgx
 go_wp2_with fail
 refine(Ya2 _ B b _ 2 2 hw2 (by omega) F2.out (by omega) hzx).mono ?_;rintro e y0 ⟨rfl,hw3,hg2⟩;rw[E2.out] at hw3;have hgy:=Yae hgx hg2;have hzy:B≤y0.heap.size:=Nat.le_trans hzx hg2.size;clear hw2;have hw2:=hw3;clear hw3 hg2 hgx hzx k0 k1 k2 k3 k4 k5;obtain⟨k0,k1,k2,k3,k4,k5⟩:=CL.out _ hgy
 go_wp2_with fail
 refine(Ya2 _ B b _ flags 3 hw2 (by omega) F3.out (by omega) hzy).mono ?_;rintro e x0 ⟨rfl,hw3,hg2⟩;rw[E3.out] at hw3;have hgx:=Yae hgy hg2;have hzx:B≤x0.heap.size:=Nat.le_trans hzy hg2.size;clear hw2;have hw2:=hw3;clear hw3 hg2 hgy hzy k0 k1 k2 k3 k4 k5;obtain⟨k0,k1,k2,k3,k4,k5⟩:=CL.out _ hgx
 go_wp2_with fail
 refine(Ya2 _ B b _ fmt 3 hw2 (by omega) F4.out (by omega) hzx).mono ?_;rintro e y0 ⟨rfl,hw3,hg2⟩;rw[E4.out] at hw3;have hgy:=Yae hgx hg2;have hzy:B≤y0.heap.size:=Nat.le_trans hzx hg2.size;clear hw2;have hw2:=hw3;clear hw3 hg2 hgx hzx k0 k1 k2 k3 k4 k5;obtain⟨k0,k1,k2,k3,k4,k5⟩:=CL.out _ hgy
 go_wp2_with fail
 refine(cn _).mono ?_;rintro e u0 ⟨rfl,rfl⟩
 go_wp2_with fail
 refine(Ya2 _ B b _ bi 1 hw2 (by omega) F5.out (by omega) hzy).mono ?_;rintro e x0 ⟨rfl,hw3,hg2⟩;rw[E5.out] at hw3;have hgx:=Yae hgy hg2;have hzx:B≤x0.heap.size:=Nat.le_trans hzy hg2.size;clear hw2;have hw2:=hw3;clear hw3 hg2 hgy hzy k0 k1 k2 k3 k4 k5;obtain⟨k0,k1,k2,k3,k4,k5⟩:=CL.out _ hgx
 go_wp2_with fail
 refine(Ya2 _ B b _ 0 4 hw2 (by omega) F6.out (by omega) hzx).mono ?_;rintro e y0 ⟨rfl,hw3,hg2⟩;rw[E6.out] at hw3;have hgy:=Yae hgx hg2;have hzy:B≤y0.heap.size:=Nat.le_trans hzx hg2.size;clear hw2;have hw2:=hw3;clear hw3 hg2 hgx hzx k0 k1 k2 k3 k4 k5;obtain⟨k0,k1,k2,k3,k4,k5⟩:=CL.out _ hgy
 go_wp2_with fail
 refine(Ya2 _ B b _ quant 5 hw2 (by omega) F7.out (by omega) hzy).mono ?_;rintro e x0 ⟨rfl,hw3,hg2⟩;rw[E7.out] at hw3;have hgx:=Yae hgy hg2;have hzx:B≤x0.heap.size:=Nat.le_trans hzy hg2.size;clear hw2;have hw2:=hw3;clear hw3 hg2 hgy hzy k0 k1 k2 k3 k4 k5;obtain⟨k0,k1,k2,k3,k4,k5⟩:=CL.out _ hgx
 go_wp2_with fail
 refine(Ya2 _ B b _ 0 1 hw2 (by omega) F8.out (by omega) hzx).mono ?_;rintro e y0 ⟨rfl,hw3,hg2⟩;rw[E8.out] at hw3;have hgy:=Yae hgx hg2;have hzy:B≤y0.heap.size:=Nat.le_trans hzx hg2.size;clear hw2;have hw2:=hw3;clear hw3 hg2 hgx hzx k0 k1 k2 k3 k4 k5;obtain⟨k0,k1,k2,k3,k4,k5⟩:=CL.out _ hgy
 go_wp2
 clear k0 k1 k2 k3 k4 k5 cn F1 F2 F3 F4 F5 F6 F7 E1 E2 E3 E4 E5 E6 E7 hA
 go_loopw [44] (fun i wr=>∃j:Nat,j≤supp.length∧i=.int .i64 j∧Ybw wr B b (R8++Yb7 (supp.take j))∧w1.grownBy wr (some b)∧B≤wr.heap.size) (fun i _=>supp.length-(RowKit.intOf i).toNat)
 case atStart=>exact⟨0,Nat.zero_le _,rfl,by rw[List.take_zero];show Ybw _ B b (R8++[]);rw[List.append_nil];exact hw2,hgy,hzy⟩
 case round=>
  clear hw2 hgy hzy;obtain⟨j,hj,rfl,hw2,hgy,hzy⟩:=hrel;have hlj:=HSL.out j hj;by_cases hlt:j<supp.length
  ·have t1:decide ((j:Int)<(supp.length:Int))=true:=by simp;omega
   obtain⟨b1,o1,rfl,hb1,hc1⟩:=(HS.out _ hgy).hold (by omega);have k0:=hc1 _ (Below.refl _ _) j hlt;obtain⟨v0,v1⟩:=HSB.out j hlt;have hsf:=HSF.out j hlt;clear HS HSB HSF HSL hc1;obtain⟨v,hv⟩:∃v,supp.getD j 0=v:=⟨_,rfl⟩;rw[hv] at k0 v0 v1 hsf;obtain⟨S0,hS0⟩:∃S,Yb7 (supp.take j)=S:=⟨_,rfl⟩;obtain⟨S1,hS1⟩:∃S,Yb7 (supp.take (j+1))=S:=⟨_,rfl⟩;rw[hS0,hS1] at hsf;rw[hS0] at hw2 hlj
   have FB:=Lib.hid (Ybl (v:=v) (n:=8) (by omega) v0 (by show _<(2:Int)^8;omega));have HS1:=Lib.hid hS1;have SQ:Hid (R8++S0++Yal (1:Int).toNat (1:Int).toNat++Yal v.toNat (8:Int).toNat=R8++S1):=Lib.hid (by rw[←hsf];simp only[List.append_assoc];rfl);clear hv hS0 hS1 hsf;have hS0l:(R8++S0).length≤r.length+200:=by rw[List.length_append];omega
   have hS1l:(R8++S0++Yal (1:Int).toNat (1:Int).toNat).length≤r.length+201:=by rw[List.length_append,Yai];have e:(1:Int).toNat=1:=rfl;omega
   go_wp2_with fail
   refine(Ya2 _ B b _ 1 1 hw2 (by omega) F9.out (by omega) hzy).mono ?_;rintro e x1 ⟨rfl,hw3,hg2⟩;have hgx:=Yae hgy hg2;have hzx:B≤x1.heap.size:=Nat.le_trans hzy hg2.size;clear hw2 hg2 hgy hzy k0
   go_wp2_with fail
   refine(Ya2 _ B b _ v 8 hw3 (by omega) FB.out (by omega) hzx).mono ?_;rintro e x2 ⟨rfl,hw4,hg2⟩;rw[SQ.out] at hw4;have hgy:=Yae hgx hg2;have hzy:B≤x2.heap.size:=Nat.le_trans hzx hg2.size;clear hw3 hg2 hgx hzx
   go_wp2
   go_roundw
   case rel=>exact⟨j+1,by omega,by go_num,by rw[HS1.out];exact hw4,hgy,hzy⟩
   case measure=>simp[RowKit.intOf];omega
  ·obtain rfl:supp.length=j:=by omega
   have t1:decide ((supp.length:Int)<(supp.length:Int))=false:=by simp
   rw[SN.out] at hw2 hlj;have FN:Hid (R8++Yb7 supp++Yal (0:Int).toNat (1:Int).toNat=FR):=Lib.hid (by rw[←FIN.out];simp only[List.append_assoc];rfl);have hS0l:(R8++Yb7 supp).length≤r.length+200:=by rw[List.length_append];omega
   clear HS HSB HSF HSL FIN
   go_wp2_with fail
   refine(Ya2 _ B b _ 0 1 hw2 (by omega) F8.out (by omega) hzy).mono ?_;rintro e x1 ⟨rfl,hw3,hg2⟩;rw[FN.out] at hw3;have hgx:=Yae hg1 (Yae hgy hg2);clear hw2 hg2 hgy hzy hg1
   go_wp2
   go_ret
   exact⟨rfl,hw3,hgx⟩
end Go.Proofs.YtndbeacoaimdgaaDoor