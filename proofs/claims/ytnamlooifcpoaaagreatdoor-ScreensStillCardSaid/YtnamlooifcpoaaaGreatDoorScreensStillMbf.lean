/- No condition. -/
import Derived.Test.YtnamlooifcpoaaaGreatDoorScreensStillMh
import Derived.Test.YtnamlooifcpoaaaGreatDoorScreensStillMk
import Derived.Test.YtnamlooifcpoaaaGreatDoorScreensStillMt
import Derived.Test.YtnamlooifcpoaaaGreatDoorScreensStillMbb
import Derived.Test.YtnamlooifcpoaaaGreatDoorScreensStillMbd
import Derived.Test.YtnamlooifcpoaaaGreatDoorScreensStillMbe
namespace Go.Proofs.YtnamlooifcpoaaaGreatDoor
open Go.RowKit Go.Lib
def Ykb (n:Int)(d:Nat):Bool:=decide (0≤n∧n<2^d)
set_option maxHeartbeats 1000000 in
theorem Yhz (n:Int)(w:World):
  Calls Tryz.prog 138 #[.int .i64 n,.int .i64 8] w fun e w'=>e=.returned (.bool (Ykb n 8))∧w=w':=by
 by_cases h0:0≤n
 ·have e:decide (n<256)=Ykb n 8:=by
   unfold Ykb;rw[decide_eq_decide];omega
  go_enter Tryz.func138,Tryz.ntmps138
  go_wp2
  go_ret
  exact⟨rfl,rfl⟩
 ·rw[show Ykb n 8=false from decide_eq_false (by omega)]
  go_enter Tryz.func138,Tryz.ntmps138
  go_wp2
  go_ret
  exact⟨rfl,rfl⟩
set_option maxHeartbeats 1000000 in
theorem Yn4 (n:Int)(w:World):
  Calls Tryz.prog 138 #[.int .i64 n,.int .i64 3] w fun e w'=>e=.returned (.bool (Ykb n 3))∧w=w':=by
 by_cases h0:0≤n
 ·have e:decide (n<8)=Ykb n 3:=by
   unfold Ykb;rw[decide_eq_decide];omega
  go_enter Tryz.func138,Tryz.ntmps138
  go_wp2
  go_ret
  exact⟨rfl,rfl⟩
 ·rw[show Ykb n 3=false from decide_eq_false (by omega)]
  go_enter Tryz.func138,Tryz.ntmps138
  go_wp2
  go_ret
  exact⟨rfl,rfl⟩
set_option maxHeartbeats 1000000 in
theorem Yml (k:Int)(w:World):
  Calls Tryz.prog 139 #[.int .i64 k] w fun e w'=>e=.returned (.bool (Ybr k))∧w=w':=by
 have c:=fun w=>Yeq k w
 go_enter Tryz.func139,Tryz.ntmps139
 go_wp2_with fail
 refine(c _).mono ?_;rintro e w1 ⟨rfl,rfl⟩
 go_wp2
 go_ret
 exact⟨rfl,rfl⟩
set_option maxHeartbeats 1000000 in
theorem Ymo (b:Bool)(w:World):
  Calls Tryz.prog 117 #[.bool b] w fun e w'=>e=.returned (.int .i64 (if b then 1 else 0))∧w=w':=by
 cases b with
 |true=>
  go_enter Tryz.func117,Tryz.ntmps117
  go_wp2
  go_ret
  exact⟨rfl,rfl⟩
 |false=>
  go_enter Tryz.func117,Tryz.ntmps117
  go_wp2
  go_ret
  exact⟨rfl,rfl⟩
def Ydb (l:List Int):Bool:=decide (l.length≤8)&&l.all Yd7
theorem Ymt {l:List Int}(h:8<l.length):Ydb l=false:=by
 unfold Ydb;rw[decide_eq_false (by omega)];rfl
theorem Yvt (x:Int):Ykb x 8=Yd7 x:=by
 unfold Ykb Yd7;rw[decide_eq_decide];omega
theorem Yn7 {l:List Int}(h8:¬ 8<l.length)(h:l.all Yd7=true):Ydb l=true:=by
 unfold Ydb;rw[decide_eq_true (by omega),h];rfl
theorem Yq6 {l:List Int}{j:Nat}(hj:j<l.length)(h:Yd7 (l.getD j 0)=false):Ydb l=false:=by
 unfold Ydb;rw[Bool.and_eq_false_iff]
 right
 rw[List.all_eq_false];refine⟨l[j],List.getElem_mem hj,?_⟩;rw[show l.getD j 0=l[j] by simp[List.getD,hj]] at h;rw[h];decide
theorem Ypr {l:List Int}{j:Nat}(hj:j<l.length)(h:(l.take j).all Yd7=true)(h2:Yd7 (l.getD j 0)=true):(l.take (j+1)).all Yd7=true:=by
 rw[show l.getD j 0=l[j] by simp[List.getD,hj]] at h2;rw[List.take_succ_eq_append_getElem hj,List.all_append,h,List.all_cons,h2]
 rfl
set_option maxHeartbeats 1000000 in
theorem Yq0 (p:Option Addr)(l:List Int)(cap:Nat)(hl:l.length≤maxLen)(w:World)(h:Yde w p l):
  Calls Tryz.prog 140 #[.slice p l.length cap] w fun e w'=>e=.returned (.bool (Ydb l))∧w=w':=by
 unfold maxLen at hl;by_cases h8:8<l.length
 ·have t0:decide (8<(l.length:Int))=true:=by simp;omega
  rw[Ymt h8];generalize l.length=n at *;clear h h8
  go_enter Tryz.func140,Tryz.ntmps140
  go_wp2
  go_ret
  exact⟨rfl,rfl⟩
 ·have t0:decide (8<(l.length:Int))=false:=by simp;omega
  have yes:=fun h=>Yn7 (l:=l) h8 h;have no:=fun j hj h=>Yq6 (l:=l) (j:=j) hj h;obtain⟨S,hS⟩:∃S,Ydb l=S:=⟨_,rfl⟩;rw[hS] at yes no ⊢;have YES:=Lib.hid yes;have NO:=Lib.hid no;have c:=fun n w=>Yhz n w;simp only[Yvt] at c;have HL:=fun h0=>h.hold h0;clear h h8 hS yes no
  go_enter Tryz.func140,Tryz.ntmps140
  go_wp2
  go_loop [10] (fun i=>∃j:Nat,j≤l.length∧i=.int .i64 j∧Hid ((l.take j).all Yd7=true)) (fun i=>l.length-(intOf i).toNat)
  case atStart=>exact⟨0,Nat.zero_le _,rfl,Lib.hid rfl⟩
  case round=>
   obtain⟨j,hj,rfl,ha⟩:=hrel;by_cases hlt:j<l.length
   ·have t1:decide ((j:Int)<(l.length:Int))=true:=by simp;omega
    obtain⟨b,o,rfl,hb,hc⟩:=HL (by omega);have k0:=hc w (Below.refl _ w) j hlt;have hM:=fun h=>Ypr hlt ha.out h;have hN:=NO.out j hlt;clear hc HL YES NO;generalize l.getD j 0=x at *;cases hx:Yd7 x with
    |true=>
     have M:=Lib.hid (hM hx);clear hM hN
     go_wp2_with fail
     refine(c _ _).mono ?_;rintro e w1 ⟨rfl,rfl⟩;rw[hx]
     go_wp2
     go_round
     case rel=>exact⟨j+1,by omega,by go_num,M⟩
     case measure=>simp[intOf];omega
    |false=>
     have N:=Lib.hid (hN hx);clear hM hN
     go_wp2_with fail
     refine(c _ _).mono ?_;rintro e w1 ⟨rfl,rfl⟩;rw[hx]
     go_wp2
     go_ret
     exact⟨by rw[N.out];rfl,rfl⟩
   ·obtain rfl:l.length=j:=by omega
    have t1:decide ((l.length:Int)<(l.length:Int))=false:=by simp
    have Y:=Lib.hid (YES.out (by have:=ha.out;rwa [List.take_length] at this));clear HL YES NO ha
    go_wp2
    go_ret
    exact⟨by rw[Y.out];rfl,rfl⟩
def Yaz (h:Shd)(sl rw:Value)(z:Int):List Value:=[.int .i64 h.ref,.int .i64 h.flags,.int .i64 h.fmt,.bool h.inter,.int .i64 h.quant,sl,rw,.int .i64 z]
theorem Yus (h:Shd)(p q:Option Addr)(n m c d:Nat)(z:Int):(Yaz h (.slice p n c) (.slice q m d) z).toArray.all (·.oneCell')=true:=by simp[Yaz,Value.oneCell']
theorem Yzj (h:Shd):Ycy h=(Ykb h.ref 8&&(Ykb h.flags 3&&(Ybr h.fmt&&(decide (1≤h.quant)&&(decide (h.quant≤31)&&Ydb h.supp))))):=by
 have e:decide (0≤h.ref∧h.ref≤255∧0≤h.flags∧h.flags≤7∧1≤h.quant∧h.quant≤31)=(Ykb h.ref 8&&(Ykb h.flags 3&&(decide (1≤h.quant)&&decide (h.quant≤31)))):=by
  rw[Bool.eq_iff_iff];unfold Ykb;simp only[Bool.and_eq_true,decide_eq_true_iff];omega
 unfold Ycy Ydb;rw[e];cases Ykb h.ref 8 <;> cases Ykb h.flags 3 <;> cases Ybr h.fmt <;> cases decide (1≤h.quant) <;> cases decide (h.quant≤31) <;> rfl
set_option maxHeartbeats 2000000 in
theorem Yh1 (h:Shd)(p:Option Addr)(cap:Nat)(rw_:Value)(z:Int)(hl:h.supp.length≤maxLen)(w:World)(hs:Yde w p h.supp):
  Calls Tryz.prog 114 #[.agg (Yaz h (.slice p h.supp.length cap) rw_ z).toArray] w fun e w'=>e=.returned (.bool (Ycy h))∧Below w.heap.size w w':=by
 have c6:=fun x (hx:Below w.heap.size w x)=>Yq0 p h.supp cap hl x (hs.below hx);rw[Yzj];obtain⟨ref,flags,fmt,inter,quant,supp⟩:=h;have c1:=fun w=>Yhz ref w;have c2:=fun w=>Yn4 flags w;have c3:=fun w=>Yml fmt w;unfold Yaz;dsimp only at c6 ⊢;obtain⟨b1,h1⟩:∃b,Ykb ref 8=b:=⟨_,rfl⟩;obtain⟨b2,h2⟩:∃b,Ykb flags 3=b:=⟨_,rfl⟩;obtain⟨b3,h3⟩:∃b,Ybr fmt=b:=⟨_,rfl⟩;obtain⟨b4,h4⟩:∃b,decide (1≤quant)=b:=⟨_,rfl⟩
 obtain⟨b5,h5⟩:∃b,decide (quant≤31)=b:=⟨_,rfl⟩;obtain⟨b6,h6⟩:∃b,Ydb supp=b:=⟨_,rfl⟩;rw[h1] at c1;rw[h2] at c2;rw[h3] at c3;rw[h6] at c6;rw[h1,h2,h3,h4,h5,h6]
 have hB:b1=false∨(b1=true∧b2=false)∨(b1=true∧b2=true∧b3=false)∨(b1=true∧b2=true∧b3=true∧b4=false)∨(b1=true∧b2=true∧b3=true∧b4=true∧b5=false)∨(b1=true∧b2=true∧b3=true∧b4=true∧b5=true∧b6=false)∨(b1=true∧b2=true∧b3=true∧b4=true∧b5=true∧b6=true):=by
  revert b1 b2 b3 b4 b5 b6;intro b1 _ _ b2 _ _ b3 _ _ b4 _ b5 _ b6 _ _;cases b1 <;> cases b2 <;> cases b3 <;> cases b4 <;> cases b5 <;> cases b6 <;> simp
 clear h1 h2 h3 h6 hl hs;have hb0:=fun o=>(Below.refl _ w).alloc (Nat.le_refl _) o;rcases hB with rfl|⟨rfl,rfl⟩|⟨rfl,rfl,rfl⟩|⟨rfl,rfl,rfl,rfl⟩|⟨rfl,rfl,rfl,rfl,rfl⟩|⟨rfl,rfl,rfl,rfl,rfl,rfl⟩|⟨rfl,rfl,rfl,rfl,rfl,rfl⟩
 all_goals
  go_enter Tryz.func114,Tryz.ntmps114
  go_wp2_with (first
   |(go_at_call 138;first|(with_reducible refine(c1 _).mono ?_;rintro e w1 ⟨rfl,rfl⟩)|(with_reducible refine(c2 _).mono ?_;rintro e w1 ⟨rfl,rfl⟩))
   |(go_at_call 139;refine(c3 _).mono ?_;rintro e w1 ⟨rfl,rfl⟩)
   |(go_at_call 140;refine(c6 _ (hb0 _)).mono ?_;rintro e w1 ⟨rfl,rfl⟩))
  go_ret
  exact⟨rfl,hb0 _⟩
def Ydz:List Int→List UInt8
 |[]=>[]
 |b::l=>49::(Yav b.toNat 8++Ydz l)
theorem Yjs:∀(l:List Int) (b:Int),Ydz (l++[b])=Ydz l++Yav 1 1++Yav b.toNat 8
 |[],b=>by simp[Ydz];rfl
 |c::l,b=>by rw[List.cons_append,Ydz,Yjs l b,Ydz];simp only[List.cons_append,List.append_assoc]
theorem Ygr:∀l:List Int,(Ydz l).length=9*l.length
 |[]=>rfl
 |b::l=>by rw[Ydz,List.length_cons,List.length_append,Yap,Ygr l,List.length_cons];omega
theorem Ymu:∀l:List Int,Ydz l++Yav 0 1=Yxg l
 |[]=>rfl
 |b::l=>by rw[Ydz,Yxg,List.cons_append,List.append_assoc,Ymu l]
theorem Yq7 {l:List Int}{j:Nat}(hj:j<l.length):Ydz (l.take j)++Yav 1 1++Yav (l.getD j 0).toNat 8=Ydz (l.take (j+1)):=by
 rw[List.take_succ_eq_append_getElem hj,Yjs,show l[j]=l.getD j 0 by simp[List.getD,hj]]
theorem Yc3 {v n:Int}(h:0≤n∧n≤32)(h0:0≤v)(h1:v<2^n.toNat):Yce v n=true:=by
 unfold Yce;rw[decide_eq_true_iff];exact⟨h.1,h.2,h0,h1⟩
set_option maxHeartbeats 1000000 in
theorem Yxe (a:Addr)(h:Shd)(p:Option Addr)(cap:Nat)(rw_:Value)(z:Int)(hl:h.supp.length≤maxLen)(w:World)(hs:Yde w p h.supp)(hm:Ycy h=false):
  Calls Tryz.prog 91 #[.pointer (some a),.agg (Yaz h (.slice p h.supp.length cap) rw_ z).toArray] w fun e w'=>e=.returned (.int .i64 12)∧Below w.heap.size w w':=by
 have c:=fun x (hx:Below w.heap.size w x)=>Yh1 h p cap rw_ z hl x (hs.below hx);rw[hm] at c;obtain⟨ref,flags,fmt,inter,quant,supp⟩:=h;unfold Yaz at *;dsimp only at *;have hb0:=fun o=>(Below.refl _ w).alloc (Nat.le_refl _) o;clear hm hs hl
 go_enter Tryz.func91,Tryz.ntmps91
 go_wp2_with fail
 refine(c _ (hb0 _)).mono ?_;rintro e w1 ⟨rfl,hb1⟩;have hb2:=(hb0 _).trans (hb1.mono (by simp))
 go_wp2
 go_ret
 exact⟨rfl,hb2⟩
set_option maxHeartbeats 4000000 in
theorem Yzq (w:World)(B b:Nat)(r:List UInt8)(h:Shd)(p:Option Addr)(cap:Nat)(rw_:Value)(z:Int)(hs:∀x,w.grownBy x (some b)→Yde x p h.supp)(hm:Ycy h=true)(hw:Ydd w B b r)(hn:r.length+400≤1099511627776)(hB:B≤w.heap.size):
  Calls Tryz.prog 91 #[.pointer (some ⟨b,0,none⟩),.agg (Yaz h (.slice p h.supp.length cap) rw_ z).toArray] w fun e w'=>e=.returned (.int .i64 0)∧Ydd w' B b (Ylh r 0++Yo9 h)∧w.grownBy w' (some b):=by
 obtain⟨⟨r1,r2,f1,f2,q1,q2⟩,⟨m1,m2⟩,hl8,hby⟩:=Yjp.1 hm;have c:=fun x (hx:Below w.heap.size w x)=>Yh1 h p cap rw_ z (by unfold maxLen;omega) x (hs x (Yao hx _));rw[hm] at c;have hrow:Yo9 h=Yur h++(Ydz h.supp++Yav 0 1):=by rw[Ymu];rfl
 unfold Yur bitL at hrow;obtain⟨ref,flags,fmt,inter,quant,supp⟩:=h;unfold Yaz at *;dsimp only at *;have cn:=fun w=>Ymo inter w;have hbit:0≤(if inter=true then (1:Int) else 0)∧(if inter=true then (1:Int) else 0)<2∧(if inter=true then (1:Nat) else 0)=(if inter=true then (1:Int) else 0).toNat:=by cases inter <;> decide
 obtain⟨i0,i1,i2⟩:=hbit;rw[i2] at hrow;generalize (if inter=true then (1:Int) else 0)=bi at cn i0 i1 hrow;clear i2;have G:=Yx0 r.length;have hlen0:=Yj5 r 0;have cm:=fun x (hx:Ydd x B b r) hz=>Yte x B b r 0 (by decide) hx (by omega) hz;have hbeh:r++List.replicate (gap r.length) 48++Yhk 0=Ylh r 0:=rfl;rw[hbeh] at cm;obtain⟨R0,hR0⟩:∃R,Ylh r 0=R:=⟨_,rfl⟩;rw[hR0] at cm hlen0 ⊢
 obtain⟨R1,hR1⟩:∃R,R0++Yav ref.toNat 8=R:=⟨_,rfl⟩;have hlen1:R1.length=R0.length+8:=by rw[←hR1,List.length_append,Yap]
 have F1:Hid (Yce ref 8=true):=Lib.hid (Yc3 (by omega) (by omega) (by show _<(2:Int)^8;omega));have E1:Hid (R0++Yav (ref:Int).toNat (8:Int).toNat=R1):=Lib.hid hR1;obtain⟨R2,hR2⟩:∃R,R1++Yav 2 2=R:=⟨_,rfl⟩;have hlen2:R2.length=R1.length+2:=by rw[←hR2,List.length_append,Yap]
 have F2:Hid (Yce 2 2=true):=Lib.hid (Yc3 (by omega) (by omega) (by show _<(2:Int)^2;omega));have E2:Hid (R1++Yav (2:Int).toNat (2:Int).toNat=R2):=Lib.hid hR2;obtain⟨R3,hR3⟩:∃R,R2++Yav flags.toNat 3=R:=⟨_,rfl⟩;have hlen3:R3.length=R2.length+3:=by rw[←hR3,List.length_append,Yap]
 have F3:Hid (Yce flags 3=true):=Lib.hid (Yc3 (by omega) (by omega) (by show _<(2:Int)^3;omega));have E3:Hid (R2++Yav (flags:Int).toNat (3:Int).toNat=R3):=Lib.hid hR3;obtain⟨R4,hR4⟩:∃R,R3++Yav fmt.toNat 3=R:=⟨_,rfl⟩;have hlen4:R4.length=R3.length+3:=by rw[←hR4,List.length_append,Yap]
 have F4:Hid (Yce fmt 3=true):=Lib.hid (Yc3 (by omega) (by omega) (by show _<(2:Int)^3;omega));have E4:Hid (R3++Yav (fmt:Int).toNat (3:Int).toNat=R4):=Lib.hid hR4;obtain⟨R5,hR5⟩:∃R,R4++Yav bi.toNat 1=R:=⟨_,rfl⟩;have hlen5:R5.length=R4.length+1:=by rw[←hR5,List.length_append,Yap]
 have F5:Hid (Yce bi 1=true):=Lib.hid (Yc3 (by omega) (by omega) (by show _<(2:Int)^1;omega));have E5:Hid (R4++Yav (bi:Int).toNat (1:Int).toNat=R5):=Lib.hid hR5;obtain⟨R6,hR6⟩:∃R,R5++Yav 0 4=R:=⟨_,rfl⟩;have hlen6:R6.length=R5.length+4:=by rw[←hR6,List.length_append,Yap]
 have F6:Hid (Yce 0 4=true):=Lib.hid (Yc3 (by omega) (by omega) (by show _<(2:Int)^4;omega));have E6:Hid (R5++Yav (0:Int).toNat (4:Int).toNat=R6):=Lib.hid hR6;obtain⟨R7,hR7⟩:∃R,R6++Yav quant.toNat 5=R:=⟨_,rfl⟩;have hlen7:R7.length=R6.length+5:=by rw[←hR7,List.length_append,Yap]
 have F7:Hid (Yce quant 5=true):=Lib.hid (Yc3 (by omega) (by omega) (by show _<(2:Int)^5;omega));have E7:Hid (R6++Yav (quant:Int).toNat (5:Int).toNat=R7):=Lib.hid hR7;obtain⟨R8,hR8⟩:∃R,R7++Yav 0 1=R:=⟨_,rfl⟩;have hlen8:R8.length=R7.length+1:=by rw[←hR8,List.length_append,Yap]
 have F8:Hid (Yce 0 1=true):=Lib.hid (Yc3 (by omega) (by omega) (by show _<(2:Int)^1;omega));have E8:Hid (R7++Yav (0:Int).toNat (1:Int).toNat=R8):=Lib.hid hR8;have FIN:Hid (R8++(Ydz supp++Yav 0 1)=R0++Yo9 ⟨ref,flags,fmt,inter,quant,supp⟩):=Lib.hid (by
  rw[hrow,←hR8,←hR7,←hR6,←hR5,←hR4,←hR3,←hR2,←hR1];simp only[List.append_assoc])
 obtain⟨FR,hFR⟩:∃R,R0++Yo9 ⟨ref,flags,fmt,inter,quant,supp⟩=R:=⟨_,rfl⟩;rw[hFR] at FIN ⊢;have SF:=fun j hj=>Yq7 (l:=supp) (j:=j) hj;have SB:∀j,j<supp.length→0≤supp.getD j 0∧supp.getD j 0≤255:=fun j hj=>by
  rw[show supp.getD j 0=supp[j] by simp[List.getD,hj]];exact hby _ (List.getElem_mem hj)
 have SL:∀j,j≤supp.length→(Ydz (supp.take j)).length=9*j:=fun j hj=>by rw[Ygr,List.length_take];omega
 have SN:=Lib.hid (show supp.take supp.length=supp from List.take_length);have HSF:=Lib.hid SF;have HSB:=Lib.hid SB;have HSL:=Lib.hid SL;have hlt:b<w.heap.size:=hw.lt;clear hrow hFR hR1 hR2 hR3 hR4 hR5 hR6 hR7 hR8 hby hm hbeh hR0 SF SB SL;have F9:Hid (Yce 1 1=true):=Lib.hid (by decide);have hb0:=fun o=>(Below.refl _ w).alloc (Nat.le_refl _) o;obtain⟨A,hA⟩:∃A,w.heap.size=A:=⟨_,rfl⟩
 go_enter Tryz.func91,Tryz.ntmps91
 go_wp2_with fail
 refine(c _ (hb0 _)).mono ?_;rintro e w1 ⟨rfl,hb1⟩;have hg1:w.grownBy w1 (some b):=Yao ((hb0 _).trans (hb1.mono (by simp))) _;have hw1:Ydd w1 B b r:=hw.below ((hb0 _).trans (hb1.mono (by simp)))
 have hh:w1.heap[A]? =some (.cells [.int .i64 ref,.int .i64 flags,.int .i64 fmt,.bool inter,.int .i64 quant,.slice p supp.length cap,rw_,.int .i64 z].toArray 29 (0,0)):=(hb1.block A (by simp;omega)).trans (hA▸heap_alloc_new w _);have hz1:A+1≤w1.heap.size:=by have:=hb1.size;simp at this;omega
 have hbA:b<A:=by omega
 clear hb1 hb0 c hw;have CL:Hid (∀x,w1.grownBy x (some b)→x.cell? ⟨A,0,none⟩=some (.int .i64 ref)∧x.cell? ⟨A,1,none⟩=some (.int .i64 flags)∧x.cell? ⟨A,2,none⟩=some (.int .i64 fmt)∧x.cell? ⟨A,3,none⟩=some (.bool inter)∧x.cell? ⟨A,4,none⟩=some (.int .i64 quant)∧x.cell? ⟨A,5,none⟩=some (.slice p supp.length cap)):=Lib.hid fun x hx=>by
  have h2:=(hx.block A (by omega) (by intro e;injection e with e;omega)).trans hh;exact⟨Yac h2 rfl,Yac h2 rfl,Yac h2 rfl,Yac h2 rfl,Yac h2 rfl,Yac h2 rfl⟩
 have HS:Hid (∀x,w1.grownBy x (some b)→Yde x p supp):=Lib.hid fun x hx=>hs x (Yag hg1 hx);clear hh hs;generalize hp0:w1=x0 at hw1 ⊢;have hgx:w1.grownBy x0 (some b):=by rw[←hp0];exact Yao (Below.refl _ _) _
 have hzx:B≤x0.heap.size:=by rw[←hp0];omega
 clear hp0
 go_wp2_with fail
 refine(cm _ hw1 hzx).mono ?_;rintro e y0 ⟨rfl,hw2,hg2⟩;have hgy:=Yag hgx hg2;have hzy:B≤y0.heap.size:=Nat.le_trans hzx hg2.size;clear hw1 hg2 hgx hzx cm;obtain⟨k0,k1,k2,k3,k4,k5⟩:=CL.out _ hgy
 go_wp2_with fail
 refine(Yb7 _ B b _ ref 8 hw2 (by omega) F1.out (by omega) hzy).mono ?_;rintro e x0 ⟨rfl,hw3,hg2⟩;rw[E1.out] at hw3;have hgx:=Yag hgy hg2;have hzx:B≤x0.heap.size:=Nat.le_trans hzy hg2.size;clear hw2;have hw2:=hw3;clear hw3 hg2 hgy hzy k0 k1 k2 k3 k4 k5;obtain⟨k0,k1,k2,k3,k4,k5⟩:=CL.out _ hgx
 go_wp2_with fail
 refine(Yb7 _ B b _ 2 2 hw2 (by omega) F2.out (by omega) hzx).mono ?_;rintro e y0 ⟨rfl,hw3,hg2⟩;rw[E2.out] at hw3;have hgy:=Yag hgx hg2;have hzy:B≤y0.heap.size:=Nat.le_trans hzx hg2.size;clear hw2;have hw2:=hw3;clear hw3 hg2 hgx hzx k0 k1 k2 k3 k4 k5;obtain⟨k0,k1,k2,k3,k4,k5⟩:=CL.out _ hgy
 go_wp2_with fail
 refine(Yb7 _ B b _ flags 3 hw2 (by omega) F3.out (by omega) hzy).mono ?_;rintro e x0 ⟨rfl,hw3,hg2⟩;rw[E3.out] at hw3;have hgx:=Yag hgy hg2;have hzx:B≤x0.heap.size:=Nat.le_trans hzy hg2.size;clear hw2;have hw2:=hw3;clear hw3 hg2 hgy hzy k0 k1 k2 k3 k4 k5;obtain⟨k0,k1,k2,k3,k4,k5⟩:=CL.out _ hgx
 go_wp2_with fail
 refine(Yb7 _ B b _ fmt 3 hw2 (by omega) F4.out (by omega) hzx).mono ?_;rintro e y0 ⟨rfl,hw3,hg2⟩;rw[E4.out] at hw3;have hgy:=Yag hgx hg2;have hzy:B≤y0.heap.size:=Nat.le_trans hzx hg2.size;clear hw2;have hw2:=hw3;clear hw3 hg2 hgx hzx k0 k1 k2 k3 k4 k5;obtain⟨k0,k1,k2,k3,k4,k5⟩:=CL.out _ hgy
 go_wp2_with fail
 refine(cn _).mono ?_;rintro e u0 ⟨rfl,rfl⟩
 go_wp2_with fail
 refine(Yb7 _ B b _ bi 1 hw2 (by omega) F5.out (by omega) hzy).mono ?_;rintro e x0 ⟨rfl,hw3,hg2⟩;rw[E5.out] at hw3;have hgx:=Yag hgy hg2;have hzx:B≤x0.heap.size:=Nat.le_trans hzy hg2.size;clear hw2;have hw2:=hw3;clear hw3 hg2 hgy hzy k0 k1 k2 k3 k4 k5;obtain⟨k0,k1,k2,k3,k4,k5⟩:=CL.out _ hgx
 go_wp2_with fail
 refine(Yb7 _ B b _ 0 4 hw2 (by omega) F6.out (by omega) hzx).mono ?_;rintro e y0 ⟨rfl,hw3,hg2⟩;rw[E6.out] at hw3;have hgy:=Yag hgx hg2;have hzy:B≤y0.heap.size:=Nat.le_trans hzx hg2.size;clear hw2;have hw2:=hw3;clear hw3 hg2 hgx hzx k0 k1 k2 k3 k4 k5;obtain⟨k0,k1,k2,k3,k4,k5⟩:=CL.out _ hgy
 go_wp2_with fail
 refine(Yb7 _ B b _ quant 5 hw2 (by omega) F7.out (by omega) hzy).mono ?_;rintro e x0 ⟨rfl,hw3,hg2⟩;rw[E7.out] at hw3;have hgx:=Yag hgy hg2;have hzx:B≤x0.heap.size:=Nat.le_trans hzy hg2.size;clear hw2;have hw2:=hw3;clear hw3 hg2 hgy hzy k0 k1 k2 k3 k4 k5;obtain⟨k0,k1,k2,k3,k4,k5⟩:=CL.out _ hgx
 go_wp2_with fail
 refine(Yb7 _ B b _ 0 1 hw2 (by omega) F8.out (by omega) hzx).mono ?_;rintro e y0 ⟨rfl,hw3,hg2⟩;rw[E8.out] at hw3;have hgy:=Yag hgx hg2;have hzy:B≤y0.heap.size:=Nat.le_trans hzx hg2.size;clear hw2;have hw2:=hw3;clear hw3 hg2 hgx hzx k0 k1 k2 k3 k4 k5;obtain⟨k0,k1,k2,k3,k4,k5⟩:=CL.out _ hgy
 go_wp2
 clear k0 k1 k2 k3 k4 k5 cn F1 F2 F3 F4 F5 F6 F7 E1 E2 E3 E4 E5 E6 E7 hA
 go_loopw [44] (fun i wr=>∃j:Nat,j≤supp.length∧i=.int .i64 j∧Ydd wr B b (R8++Ydz (supp.take j))∧w1.grownBy wr (some b)∧B≤wr.heap.size) (fun i _=>supp.length-(RowKit.intOf i).toNat)
 case atStart=>exact⟨0,Nat.zero_le _,rfl,by rw[List.take_zero];show Ydd _ B b (R8++[]);rw[List.append_nil];exact hw2,hgy,hzy⟩
 case round=>
  clear hw2 hgy hzy;obtain⟨j,hj,rfl,hw2,hgy,hzy⟩:=hrel;have hlj:=HSL.out j hj;by_cases hlt:j<supp.length
  ·have t1:decide ((j:Int)<(supp.length:Int))=true:=by simp;omega
   obtain⟨b1,o1,rfl,hb1,hc1⟩:=(HS.out _ hgy).hold (by omega);have k0:=hc1 _ (Below.refl _ _) j hlt;obtain⟨v0,v1⟩:=HSB.out j hlt;have hsf:=HSF.out j hlt;clear HS HSB HSF HSL hc1;obtain⟨v,hv⟩:∃v,supp.getD j 0=v:=⟨_,rfl⟩;rw[hv] at k0 v0 v1 hsf;obtain⟨S0,hS0⟩:∃S,Ydz (supp.take j)=S:=⟨_,rfl⟩;obtain⟨S1,hS1⟩:∃S,Ydz (supp.take (j+1))=S:=⟨_,rfl⟩;rw[hS0,hS1] at hsf;rw[hS0] at hw2 hlj
   have FB:=Lib.hid (Yc3 (v:=v) (n:=8) (by omega) v0 (by show _<(2:Int)^8;omega));have HS1:=Lib.hid hS1;have SQ:Hid (R8++S0++Yav (1:Int).toNat (1:Int).toNat++Yav v.toNat (8:Int).toNat=R8++S1):=Lib.hid (by rw[←hsf];simp only[List.append_assoc];rfl);clear hv hS0 hS1 hsf;have hS0l:(R8++S0).length≤r.length+200:=by rw[List.length_append];omega
   have hS1l:(R8++S0++Yav (1:Int).toNat (1:Int).toNat).length≤r.length+201:=by rw[List.length_append,Yap];have e:(1:Int).toNat=1:=rfl;omega
   go_wp2_with fail
   refine(Yb7 _ B b _ 1 1 hw2 (by omega) F9.out (by omega) hzy).mono ?_;rintro e x1 ⟨rfl,hw3,hg2⟩;have hgx:=Yag hgy hg2;have hzx:B≤x1.heap.size:=Nat.le_trans hzy hg2.size;clear hw2 hg2 hgy hzy k0
   go_wp2_with fail
   refine(Yb7 _ B b _ v 8 hw3 (by omega) FB.out (by omega) hzx).mono ?_;rintro e x2 ⟨rfl,hw4,hg2⟩;rw[SQ.out] at hw4;have hgy:=Yag hgx hg2;have hzy:B≤x2.heap.size:=Nat.le_trans hzx hg2.size;clear hw3 hg2 hgx hzx
   go_wp2
   go_roundw
   case rel=>exact⟨j+1,by omega,by go_num,by rw[HS1.out];exact hw4,hgy,hzy⟩
   case measure=>simp[RowKit.intOf];omega
  ·obtain rfl:supp.length=j:=by omega
   have t1:decide ((supp.length:Int)<(supp.length:Int))=false:=by simp
   rw[SN.out] at hw2 hlj;have FN:Hid (R8++Ydz supp++Yav (0:Int).toNat (1:Int).toNat=FR):=Lib.hid (by rw[←FIN.out];simp only[List.append_assoc];rfl);have hS0l:(R8++Ydz supp).length≤r.length+200:=by rw[List.length_append];omega
   clear HS HSB HSF HSL FIN
   go_wp2_with fail
   refine(Yb7 _ B b _ 0 1 hw2 (by omega) F8.out (by omega) hzy).mono ?_;rintro e x1 ⟨rfl,hw3,hg2⟩;rw[FN.out] at hw3;have hgx:=Yag hg1 (Yag hgy hg2);clear hw2 hg2 hgy hzy hg1
   go_wp2
   go_ret
   exact⟨rfl,hw3,hgx⟩
end Go.Proofs.YtnamlooifcpoaaaGreatDoor