/- No condition. -/
import Derived.Test.YtnamlooifcpoaaaGreatDoorScreensNextMh
import Derived.Test.YtnamlooifcpoaaaGreatDoorScreensNextMk
import Derived.Test.YtnamlooifcpoaaaGreatDoorScreensNextMs
import Derived.Test.YtnamlooifcpoaaaGreatDoorScreensNextMt
import Derived.Test.YtnamlooifcpoaaaGreatDoorScreensNextMbc
import Derived.Test.YtnamlooifcpoaaaGreatDoorScreensNextMbe
import Derived.Deep.RegionLaw
import Derived.Laws.CopyOwn
import Derived.WalkMore
namespace Go.Proofs.YtnamlooifcpoaaaGreatDoor
open Go.RowKit
set_option maxHeartbeats 1000000 in
theorem Yc5 (w:World)(B b:Nat)(r:List UInt8)(v n:Int)(hw:Yep w B b r)(h2:v≤9223372036854775807)(hf:Ydj v n=true)(hn:r.length+32≤1099511627776)(hB:B≤w.heap.size):
  Calls Tryz.prog 116 #[.pointer (some ⟨b,0,none⟩),.int .i64 v,.int .i64 n] w fun e w'=>e=.returned (.int .i64 0)∧Yep w' B b (r++Ya5 v.toNat n.toNat)∧w.grownBy w' (some b):=by
 have hrow:Ycj (Ya5 v.toNat n.toNat)=true:=Yj6 _ _;have hlen:(Ya5 v.toNat n.toNat).length≤32:=by rw[Yay];have:=(Yk6 hf).2.1;omega
 have HR:=Lib.hid hrow;have HF:=Lib.hid hf;clear hrow hf
 go_enter Tryz.func116,Tryz.ntmps116
 go_wp2_with fail
 refine(Yi8 v n _ h2 HF.out).mono ?_;rintro e w1 ⟨rfl,hb⟩;have hw1:=hw.below hb;have hg1:w.grownBy w1 (some b):=⟨hb.os,hb.tape,hb.output,hb.size,fun k hk _=>hb.block k hk⟩;have hsz:=hb.size;clear hb
 go_wp2_with fail
 refine(Yrb _ B b r _ hw1 HR.out (by rw[Y20];omega) (by omega)).mono ?_;rintro e w2 ⟨rfl,hw2,hg2⟩
 go_wp2
 go_ret
 exact⟨rfl,hw2,Yal hg1 hg2⟩
theorem Y3y:∀n:Fin 32,bits .or .i64 32 ((n.val:Nat):Int)=((32+n.val:Nat):Int):=by decide +kernel
theorem Yw0 (n:Nat)(h:n<32):Ydj ((32+n:Nat):Int) 22=true:=by
 unfold Ydj;rw[decide_eq_true_iff];refine⟨by omega,by omega,by omega,?_⟩;show ((32+n:Nat):Int)<2^22;omega
set_option maxHeartbeats 1000000 in
theorem Yw3 (w:World)(B b:Nat)(r:List UInt8)(n:Nat)(h:n<32)(hw:Yep w B b r)(hn:r.length+40≤1099511627776)(hB:B≤w.heap.size):
  Calls Tryz.prog 115 #[.pointer (some ⟨b,0,none⟩),.int .i64 (n:Int)] w fun e w'=>e=.returned (.int .i64 0)∧Yep w' B b (r++List.replicate (gap r.length) 48++Yjw n)∧w.grownBy w' (some b):=by
 have O:Hid (bits .or .i64 32 (n:Int)=((32+n:Nat):Int)):=Lib.hid (Y3y ⟨n,h⟩);have hf:=Yw0 n h;have F:=Lib.hid hf;have G:=Lib.hid (Y1f r.length);have d1:decide ((n:Int)<0)=false:=by simp
 have d2:decide (31<(n:Int))=false:=by simp;omega
 have V:Hid (((32+n:Nat):Int)≤9223372036854775807):=Lib.hid (by omega);clear hf h
 go_enter Tryz.func115,Tryz.ntmps115
 go_wp2_with fail
 refine(Ywd _ B b r hw (by omega) hB).mono ?_;rintro e w1 ⟨rfl,hw1,hg1⟩;have hB1:B≤w1.heap.size:=Nat.le_trans hB hg1.size
 go_wp2_with fail
 rw[O.out];refine(Yc5 _ B b _ _ _ hw1 V.out F.out (by have:=G.out;rw[List.length_append,List.length_replicate];omega) hB1).mono ?_;rintro e w2 ⟨rfl,hw2,hg2⟩;rw[Ytr] at hw2
 go_wp2
 go_ret
 exact⟨rfl,hw2,Yal hg1 hg2⟩
end Go.Proofs.YtnamlooifcpoaaaGreatDoor
namespace Go.Proofs.YtnamlooifcpoaaaGreatDoor
open Go.RowKit Go.Lib
def Ymm (n:Int)(d:Nat):Bool:=decide (0≤n∧n<2^d)
set_option maxHeartbeats 1000000 in
theorem Yj8 (n:Int)(w:World):
  Calls Tryz.prog 138 #[.int .i64 n,.int .i64 8] w fun e w'=>e=.returned (.bool (Ymm n 8))∧w=w':=by
 by_cases h0:0≤n
 ·have e:decide (n<256)=Ymm n 8:=by
   unfold Ymm;rw[decide_eq_decide];omega
  go_enter Tryz.func138,Tryz.ntmps138
  go_wp2
  go_ret
  exact⟨rfl,rfl⟩
 ·rw[show Ymm n 8=false from decide_eq_false (by omega)]
  go_enter Tryz.func138,Tryz.ntmps138
  go_wp2
  go_ret
  exact⟨rfl,rfl⟩
set_option maxHeartbeats 1000000 in
theorem Yqv (n:Int)(w:World):
  Calls Tryz.prog 138 #[.int .i64 n,.int .i64 3] w fun e w'=>e=.returned (.bool (Ymm n 3))∧w=w':=by
 by_cases h0:0≤n
 ·have e:decide (n<8)=Ymm n 3:=by
   unfold Ymm;rw[decide_eq_decide];omega
  go_enter Tryz.func138,Tryz.ntmps138
  go_wp2
  go_ret
  exact⟨rfl,rfl⟩
 ·rw[show Ymm n 3=false from decide_eq_false (by omega)]
  go_enter Tryz.func138,Tryz.ntmps138
  go_wp2
  go_ret
  exact⟨rfl,rfl⟩
set_option maxHeartbeats 1000000 in
theorem Ypb (k:Int)(w:World):
  Calls Tryz.prog 139 #[.int .i64 k] w fun e w'=>e=.returned (.bool (Yb6 k))∧w=w':=by
 have c:=fun w=>Ygb k w
 go_enter Tryz.func139,Tryz.ntmps139
 go_wp2_with fail
 refine(c _).mono ?_;rintro e w1 ⟨rfl,rfl⟩
 go_wp2
 go_ret
 exact⟨rfl,rfl⟩
set_option maxHeartbeats 1000000 in
theorem Ypd (b:Bool)(w:World):
  Calls Tryz.prog 117 #[.bool b] w fun e w'=>e=.returned (.int .i64 (if b then 1 else 0))∧w=w':=by
 cases b with
 |true=>
  go_enter Tryz.func117,Tryz.ntmps117
  go_wp2
  go_ret
  exact⟨rfl,rfl⟩
 |false=>
  go_enter Tryz.func117,Tryz.ntmps117
  go_wp2
  go_ret
  exact⟨rfl,rfl⟩
def Yen (l:List Int):Bool:=decide (l.length≤8)&&l.all Ycp
theorem Ypg {l:List Int}(h:8<l.length):Yen l=false:=by
 unfold Yen;rw[decide_eq_false (by omega)];rfl
theorem Yy9 (x:Int):Ymm x 8=Ycp x:=by
 unfold Ymm Ycp;rw[decide_eq_decide];omega
theorem Yq0 {l:List Int}(h8:¬ 8<l.length)(h:l.all Ycp=true):Yen l=true:=by
 unfold Yen;rw[decide_eq_true (by omega),h];rfl
theorem Yut {l:List Int}{j:Nat}(hj:j<l.length)(h:Ycp (l.getD j 0)=false):Yen l=false:=by
 unfold Yen;rw[Bool.and_eq_false_iff]
 right
 rw[List.all_eq_false];refine⟨l[j],List.getElem_mem hj,?_⟩;rw[show l.getD j 0=l[j] by simp[List.getD,hj]] at h;rw[h];decide
theorem Yk3 {l:List Int}{j:Nat}(hj:j<l.length)(h:(l.take j).all Ycp=true)(h2:Ycp (l.getD j 0)=true):(l.take (j+1)).all Ycp=true:=by
 rw[show l.getD j 0=l[j] by simp[List.getD,hj]] at h2;rw[List.take_succ_eq_append_getElem hj,List.all_append,h,List.all_cons,h2]
 rfl
set_option maxHeartbeats 1000000 in
theorem Yuo (p:Option Addr)(l:List Int)(cap:Nat)(hl:l.length≤maxLen)(w:World)(h:Ydf w p l):
  Calls Tryz.prog 140 #[.slice p l.length cap] w fun e w'=>e=.returned (.bool (Yen l))∧w=w':=by
 unfold maxLen at hl;by_cases h8:8<l.length
 ·have t0:decide (8<(l.length:Int))=true:=by simp;omega
  rw[Ypg h8];generalize l.length=n at *;clear h h8
  go_enter Tryz.func140,Tryz.ntmps140
  go_wp2
  go_ret
  exact⟨rfl,rfl⟩
 ·have t0:decide (8<(l.length:Int))=false:=by simp;omega
  have yes:=fun h=>Yq0 (l:=l) h8 h;have no:=fun j hj h=>Yut (l:=l) (j:=j) hj h;obtain⟨S,hS⟩:∃S,Yen l=S:=⟨_,rfl⟩;rw[hS] at yes no ⊢;have YES:=Lib.hid yes;have NO:=Lib.hid no;have c:=fun n w=>Yj8 n w;simp only[Yy9] at c;have HL:=fun h0=>h.hold h0;clear h h8 hS yes no
  go_enter Tryz.func140,Tryz.ntmps140
  go_wp2
  go_loop [10] (fun i=>∃j:Nat,j≤l.length∧i=.int .i64 j∧Hid ((l.take j).all Ycp=true)) (fun i=>l.length-(intOf i).toNat)
  case atStart=>exact⟨0,Nat.zero_le _,rfl,Lib.hid rfl⟩
  case round=>
   obtain⟨j,hj,rfl,ha⟩:=hrel;by_cases hlt:j<l.length
   ·have t1:decide ((j:Int)<(l.length:Int))=true:=by simp;omega
    obtain⟨b,o,rfl,hb,hc⟩:=HL (by omega);have k0:=hc w (Below.refl _ w) j hlt;have hM:=fun h=>Yk3 hlt ha.out h;have hN:=NO.out j hlt;clear hc HL YES NO;generalize l.getD j 0=x at *;cases hx:Ycp x with
    |true=>
     have M:=Lib.hid (hM hx);clear hM hN
     go_wp2_with fail
     refine(c _ _).mono ?_;rintro e w1 ⟨rfl,rfl⟩;rw[hx]
     go_wp2
     go_round
     case rel=>exact⟨j+1,by omega,by go_num,M⟩
     case measure=>simp[intOf];omega
    |false=>
     have N:=Lib.hid (hN hx);clear hM hN
     go_wp2_with fail
     refine(c _ _).mono ?_;rintro e w1 ⟨rfl,rfl⟩;rw[hx]
     go_wp2
     go_ret
     exact⟨by rw[N.out];rfl,rfl⟩
   ·obtain rfl:l.length=j:=by omega
    have t1:decide ((l.length:Int)<(l.length:Int))=false:=by simp
    have Y:=Lib.hid (YES.out (by have:=ha.out;rwa [List.take_length] at this));clear HL YES NO ha
    go_wp2
    go_ret
    exact⟨by rw[Y.out];rfl,rfl⟩
def Yaz (h:Shd)(sl rw:Value)(z:Int):List Value:=[.int .i64 h.ref,.int .i64 h.flags,.int .i64 h.fmt,.bool h.inter,.int .i64 h.quant,sl,rw,.int .i64 z]
theorem Yym (h:Shd)(p q:Option Addr)(n m c d:Nat)(z:Int):(Yaz h (.slice p n c) (.slice q m d) z).toArray.all (·.oneCell')=true:=by simp[Yaz,Value.oneCell']
theorem Y2x (h:Shd):Ycw h=(Ymm h.ref 8&&(Ymm h.flags 3&&(Yb6 h.fmt&&(decide (1≤h.quant)&&(decide (h.quant≤31)&&Yen h.supp))))):=by
 have e:decide (0≤h.ref∧h.ref≤255∧0≤h.flags∧h.flags≤7∧1≤h.quant∧h.quant≤31)=(Ymm h.ref 8&&(Ymm h.flags 3&&(decide (1≤h.quant)&&decide (h.quant≤31)))):=by
  rw[Bool.eq_iff_iff];unfold Ymm;simp only[Bool.and_eq_true,decide_eq_true_iff];omega
 unfold Ycw Yen;rw[e];cases Ymm h.ref 8 <;> cases Ymm h.flags 3 <;> cases Yb6 h.fmt <;> cases decide (1≤h.quant) <;> cases decide (h.quant≤31) <;> rfl
set_option maxHeartbeats 2000000 in
theorem Yka (h:Shd)(p:Option Addr)(cap:Nat)(rw_:Value)(z:Int)(hl:h.supp.length≤maxLen)(w:World)(hs:Ydf w p h.supp):
  Calls Tryz.prog 114 #[.agg (Yaz h (.slice p h.supp.length cap) rw_ z).toArray] w fun e w'=>e=.returned (.bool (Ycw h))∧Below w.heap.size w w':=by
 have c6:=fun x (hx:Below w.heap.size w x)=>Yuo p h.supp cap hl x (hs.below hx);rw[Y2x];obtain⟨ref,flags,fmt,inter,quant,supp⟩:=h;have c1:=fun w=>Yj8 ref w;have c2:=fun w=>Yqv flags w;have c3:=fun w=>Ypb fmt w;unfold Yaz;dsimp only at c6 ⊢;obtain⟨b1,h1⟩:∃b,Ymm ref 8=b:=⟨_,rfl⟩;obtain⟨b2,h2⟩:∃b,Ymm flags 3=b:=⟨_,rfl⟩;obtain⟨b3,h3⟩:∃b,Yb6 fmt=b:=⟨_,rfl⟩;obtain⟨b4,h4⟩:∃b,decide (1≤quant)=b:=⟨_,rfl⟩
 obtain⟨b5,h5⟩:∃b,decide (quant≤31)=b:=⟨_,rfl⟩;obtain⟨b6,h6⟩:∃b,Yen supp=b:=⟨_,rfl⟩;rw[h1] at c1;rw[h2] at c2;rw[h3] at c3;rw[h6] at c6;rw[h1,h2,h3,h4,h5,h6]
 have hB:b1=false∨(b1=true∧b2=false)∨(b1=true∧b2=true∧b3=false)∨(b1=true∧b2=true∧b3=true∧b4=false)∨(b1=true∧b2=true∧b3=true∧b4=true∧b5=false)∨(b1=true∧b2=true∧b3=true∧b4=true∧b5=true∧b6=false)∨(b1=true∧b2=true∧b3=true∧b4=true∧b5=true∧b6=true):=by
  revert b1 b2 b3 b4 b5 b6;intro b1 _ _ b2 _ _ b3 _ _ b4 _ b5 _ b6 _ _;cases b1 <;> cases b2 <;> cases b3 <;> cases b4 <;> cases b5 <;> cases b6 <;> simp
 clear h1 h2 h3 h6 hl hs;have hb0:=fun o=>(Below.refl _ w).alloc (Nat.le_refl _) o;rcases hB with rfl|⟨rfl,rfl⟩|⟨rfl,rfl,rfl⟩|⟨rfl,rfl,rfl,rfl⟩|⟨rfl,rfl,rfl,rfl,rfl⟩|⟨rfl,rfl,rfl,rfl,rfl,rfl⟩|⟨rfl,rfl,rfl,rfl,rfl,rfl⟩
 all_goals
  go_enter Tryz.func114,Tryz.ntmps114
  go_wp2_with (first
   |(go_at_call 138;first|(with_reducible refine(c1 _).mono ?_;rintro e w1 ⟨rfl,rfl⟩)|(with_reducible refine(c2 _).mono ?_;rintro e w1 ⟨rfl,rfl⟩))
   |(go_at_call 139;refine(c3 _).mono ?_;rintro e w1 ⟨rfl,rfl⟩)
   |(go_at_call 140;refine(c6 _ (hb0 _)).mono ?_;rintro e w1 ⟨rfl,rfl⟩))
  go_ret
  exact⟨rfl,hb0 _⟩
def Yff:List Int→List UInt8
 |[]=>[]
 |b::l=>49::(Ya5 b.toNat 8++Yff l)
theorem Ylw:∀(l:List Int) (b:Int),Yff (l++[b])=Yff l++Ya5 1 1++Ya5 b.toNat 8
 |[],b=>by simp[Yff];rfl
 |c::l,b=>by rw[List.cons_append,Yff,Ylw l b,Yff];simp only[List.cons_append,List.append_assoc]
theorem Yim:∀l:List Int,(Yff l).length=9*l.length
 |[]=>rfl
 |b::l=>by rw[Yff,List.length_cons,List.length_append,Yay,Yim l,List.length_cons];omega
theorem Yph:∀l:List Int,Yff l++Ya5 0 1=Y0y l
 |[]=>rfl
 |b::l=>by rw[Yff,Y0y,List.cons_append,List.append_assoc,Yph l]
theorem Yuu {l:List Int}{j:Nat}(hj:j<l.length):Yff (l.take j)++Ya5 1 1++Ya5 (l.getD j 0).toNat 8=Yff (l.take (j+1)):=by
 rw[List.take_succ_eq_append_getElem hj,Ylw,show l[j]=l.getD j 0 by simp[List.getD,hj]]
theorem Yee {v n:Int}(h:0≤n∧n≤32)(h0:0≤v)(h1:v<2^n.toNat):Ydj v n=true:=by
 unfold Ydj;rw[decide_eq_true_iff];exact⟨h.1,h.2,h0,h1⟩
set_option maxHeartbeats 1000000 in
theorem Y0v (a:Addr)(h:Shd)(p:Option Addr)(cap:Nat)(rw_:Value)(z:Int)(hl:h.supp.length≤maxLen)(w:World)(hs:Ydf w p h.supp)(hm:Ycw h=false):
  Calls Tryz.prog 91 #[.pointer (some a),.agg (Yaz h (.slice p h.supp.length cap) rw_ z).toArray] w fun e w'=>e=.returned (.int .i64 12)∧Below w.heap.size w w':=by
 have c:=fun x (hx:Below w.heap.size w x)=>Yka h p cap rw_ z hl x (hs.below hx);rw[hm] at c;obtain⟨ref,flags,fmt,inter,quant,supp⟩:=h;unfold Yaz at *;dsimp only at *;have hb0:=fun o=>(Below.refl _ w).alloc (Nat.le_refl _) o;clear hm hs hl
 go_enter Tryz.func91,Tryz.ntmps91
 go_wp2_with fail
 refine(c _ (hb0 _)).mono ?_;rintro e w1 ⟨rfl,hb1⟩;have hb2:=(hb0 _).trans (hb1.mono (by simp))
 go_wp2
 go_ret
 exact⟨rfl,hb2⟩
set_option maxHeartbeats 4000000 in
theorem Y21 (w:World)(B b:Nat)(r:List UInt8)(h:Shd)(p:Option Addr)(cap:Nat)(rw_:Value)(z:Int)(hs:∀x,w.grownBy x (some b)→Ydf x p h.supp)(hm:Ycw h=true)(hw:Yep w B b r)(hn:r.length+400≤1099511627776)(hB:B≤w.heap.size):
  Calls Tryz.prog 91 #[.pointer (some ⟨b,0,none⟩),.agg (Yaz h (.slice p h.supp.length cap) rw_ z).toArray] w fun e w'=>e=.returned (.int .i64 0)∧Yep w' B b (Ynx r 0++Ysi h)∧w.grownBy w' (some b):=by
 obtain⟨⟨r1,r2,f1,f2,q1,q2⟩,⟨m1,m2⟩,hl8,hby⟩:=Yh9.1 hm;have c:=fun x (hx:Below w.heap.size w x)=>Yka h p cap rw_ z (by unfold maxLen;omega) x (hs x (Ya2 hx _));rw[hm] at c;have hrow:Ysi h=Yyk h++(Yff h.supp++Ya5 0 1):=by rw[Yph];rfl
 unfold Yyk bitL at hrow;obtain⟨ref,flags,fmt,inter,quant,supp⟩:=h;unfold Yaz at *;dsimp only at *;have cn:=fun w=>Ypd inter w;have hbit:0≤(if inter=true then (1:Int) else 0)∧(if inter=true then (1:Int) else 0)<2∧(if inter=true then (1:Nat) else 0)=(if inter=true then (1:Int) else 0).toNat:=by cases inter <;> decide
 obtain⟨i0,i1,i2⟩:=hbit;rw[i2] at hrow;generalize (if inter=true then (1:Int) else 0)=bi at cn i0 i1 hrow;clear i2;have G:=Y1f r.length;have hlen0:=Yme r 0;have cm:=fun x (hx:Yep x B b r) hz=>Yw3 x B b r 0 (by decide) hx (by omega) hz;have hbeh:r++List.replicate (gap r.length) 48++Yjw 0=Ynx r 0:=rfl;rw[hbeh] at cm;obtain⟨R0,hR0⟩:∃R,Ynx r 0=R:=⟨_,rfl⟩;rw[hR0] at cm hlen0 ⊢
 obtain⟨R1,hR1⟩:∃R,R0++Ya5 ref.toNat 8=R:=⟨_,rfl⟩;have hlen1:R1.length=R0.length+8:=by rw[←hR1,List.length_append,Yay]
 have F1:Hid (Ydj ref 8=true):=Lib.hid (Yee (by omega) (by omega) (by show _<(2:Int)^8;omega));have E1:Hid (R0++Ya5 (ref:Int).toNat (8:Int).toNat=R1):=Lib.hid hR1;obtain⟨R2,hR2⟩:∃R,R1++Ya5 2 2=R:=⟨_,rfl⟩;have hlen2:R2.length=R1.length+2:=by rw[←hR2,List.length_append,Yay]
 have F2:Hid (Ydj 2 2=true):=Lib.hid (Yee (by omega) (by omega) (by show _<(2:Int)^2;omega));have E2:Hid (R1++Ya5 (2:Int).toNat (2:Int).toNat=R2):=Lib.hid hR2;obtain⟨R3,hR3⟩:∃R,R2++Ya5 flags.toNat 3=R:=⟨_,rfl⟩;have hlen3:R3.length=R2.length+3:=by rw[←hR3,List.length_append,Yay]
 have F3:Hid (Ydj flags 3=true):=Lib.hid (Yee (by omega) (by omega) (by show _<(2:Int)^3;omega));have E3:Hid (R2++Ya5 (flags:Int).toNat (3:Int).toNat=R3):=Lib.hid hR3;obtain⟨R4,hR4⟩:∃R,R3++Ya5 fmt.toNat 3=R:=⟨_,rfl⟩;have hlen4:R4.length=R3.length+3:=by rw[←hR4,List.length_append,Yay]
 have F4:Hid (Ydj fmt 3=true):=Lib.hid (Yee (by omega) (by omega) (by show _<(2:Int)^3;omega));have E4:Hid (R3++Ya5 (fmt:Int).toNat (3:Int).toNat=R4):=Lib.hid hR4;obtain⟨R5,hR5⟩:∃R,R4++Ya5 bi.toNat 1=R:=⟨_,rfl⟩;have hlen5:R5.length=R4.length+1:=by rw[←hR5,List.length_append,Yay]
 have F5:Hid (Ydj bi 1=true):=Lib.hid (Yee (by omega) (by omega) (by show _<(2:Int)^1;omega));have E5:Hid (R4++Ya5 (bi:Int).toNat (1:Int).toNat=R5):=Lib.hid hR5;obtain⟨R6,hR6⟩:∃R,R5++Ya5 0 4=R:=⟨_,rfl⟩;have hlen6:R6.length=R5.length+4:=by rw[←hR6,List.length_append,Yay]
 have F6:Hid (Ydj 0 4=true):=Lib.hid (Yee (by omega) (by omega) (by show _<(2:Int)^4;omega));have E6:Hid (R5++Ya5 (0:Int).toNat (4:Int).toNat=R6):=Lib.hid hR6;obtain⟨R7,hR7⟩:∃R,R6++Ya5 quant.toNat 5=R:=⟨_,rfl⟩;have hlen7:R7.length=R6.length+5:=by rw[←hR7,List.length_append,Yay]
 have F7:Hid (Ydj quant 5=true):=Lib.hid (Yee (by omega) (by omega) (by show _<(2:Int)^5;omega));have E7:Hid (R6++Ya5 (quant:Int).toNat (5:Int).toNat=R7):=Lib.hid hR7;obtain⟨R8,hR8⟩:∃R,R7++Ya5 0 1=R:=⟨_,rfl⟩;have hlen8:R8.length=R7.length+1:=by rw[←hR8,List.length_append,Yay]
 have F8:Hid (Ydj 0 1=true):=Lib.hid (Yee (by omega) (by omega) (by show _<(2:Int)^1;omega));have E8:Hid (R7++Ya5 (0:Int).toNat (1:Int).toNat=R8):=Lib.hid hR8;have FIN:Hid (R8++(Yff supp++Ya5 0 1)=R0++Ysi ⟨ref,flags,fmt,inter,quant,supp⟩):=Lib.hid (by
  rw[hrow,←hR8,←hR7,←hR6,←hR5,←hR4,←hR3,←hR2,←hR1];simp only[List.append_assoc])
 obtain⟨FR,hFR⟩:∃R,R0++Ysi ⟨ref,flags,fmt,inter,quant,supp⟩=R:=⟨_,rfl⟩;rw[hFR] at FIN ⊢;have SF:=fun j hj=>Yuu (l:=supp) (j:=j) hj;have SB:∀j,j<supp.length→0≤supp.getD j 0∧supp.getD j 0≤255:=fun j hj=>by
  rw[show supp.getD j 0=supp[j] by simp[List.getD,hj]];exact hby _ (List.getElem_mem hj)
 have SL:∀j,j≤supp.length→(Yff (supp.take j)).length=9*j:=fun j hj=>by rw[Yim,List.length_take];omega
 have SN:=Lib.hid (show supp.take supp.length=supp from List.take_length);have HSF:=Lib.hid SF;have HSB:=Lib.hid SB;have HSL:=Lib.hid SL;have hlt:b<w.heap.size:=hw.lt;clear hrow hFR hR1 hR2 hR3 hR4 hR5 hR6 hR7 hR8 hby hm hbeh hR0 SF SB SL;have F9:Hid (Ydj 1 1=true):=Lib.hid (by decide);have hb0:=fun o=>(Below.refl _ w).alloc (Nat.le_refl _) o;obtain⟨A,hA⟩:∃A,w.heap.size=A:=⟨_,rfl⟩
 go_enter Tryz.func91,Tryz.ntmps91
 go_wp2_with fail
 refine(c _ (hb0 _)).mono ?_;rintro e w1 ⟨rfl,hb1⟩;have hg1:w.grownBy w1 (some b):=Ya2 ((hb0 _).trans (hb1.mono (by simp))) _;have hw1:Yep w1 B b r:=hw.below ((hb0 _).trans (hb1.mono (by simp)))
 have hh:w1.heap[A]? =some (.cells [.int .i64 ref,.int .i64 flags,.int .i64 fmt,.bool inter,.int .i64 quant,.slice p supp.length cap,rw_,.int .i64 z].toArray 29 (0,0)):=(hb1.block A (by simp;omega)).trans (hA▸heap_alloc_new w _);have hz1:A+1≤w1.heap.size:=by have:=hb1.size;simp at this;omega
 have hbA:b<A:=by omega
 clear hb1 hb0 c hw;have CL:Hid (∀x,w1.grownBy x (some b)→x.cell? ⟨A,0,none⟩=some (.int .i64 ref)∧x.cell? ⟨A,1,none⟩=some (.int .i64 flags)∧x.cell? ⟨A,2,none⟩=some (.int .i64 fmt)∧x.cell? ⟨A,3,none⟩=some (.bool inter)∧x.cell? ⟨A,4,none⟩=some (.int .i64 quant)∧x.cell? ⟨A,5,none⟩=some (.slice p supp.length cap)):=Lib.hid fun x hx=>by
  have h2:=(hx.block A (by omega) (by intro e;injection e with e;omega)).trans hh;exact⟨Yac h2 rfl,Yac h2 rfl,Yac h2 rfl,Yac h2 rfl,Yac h2 rfl,Yac h2 rfl⟩
 have HS:Hid (∀x,w1.grownBy x (some b)→Ydf x p supp):=Lib.hid fun x hx=>hs x (Yal hg1 hx);clear hh hs;generalize hp0:w1=x0 at hw1 ⊢;have hgx:w1.grownBy x0 (some b):=by rw[←hp0];exact Ya2 (Below.refl _ _) _
 have hzx:B≤x0.heap.size:=by rw[←hp0];omega
 clear hp0
 go_wp2_with fail
 refine(cm _ hw1 hzx).mono ?_;rintro e y0 ⟨rfl,hw2,hg2⟩;have hgy:=Yal hgx hg2;have hzy:B≤y0.heap.size:=Nat.le_trans hzx hg2.size;clear hw1 hg2 hgx hzx cm;obtain⟨k0,k1,k2,k3,k4,k5⟩:=CL.out _ hgy
 go_wp2_with fail
 refine(Yc5 _ B b _ ref 8 hw2 (by omega) F1.out (by omega) hzy).mono ?_;rintro e x0 ⟨rfl,hw3,hg2⟩;rw[E1.out] at hw3;have hgx:=Yal hgy hg2;have hzx:B≤x0.heap.size:=Nat.le_trans hzy hg2.size;clear hw2;have hw2:=hw3;clear hw3 hg2 hgy hzy k0 k1 k2 k3 k4 k5;obtain⟨k0,k1,k2,k3,k4,k5⟩:=CL.out _ hgx
 go_wp2_with fail
 refine(Yc5 _ B b _ 2 2 hw2 (by omega) F2.out (by omega) hzx).mono ?_;rintro e y0 ⟨rfl,hw3,hg2⟩;rw[E2.out] at hw3;have hgy:=Yal hgx hg2;have hzy:B≤y0.heap.size:=Nat.le_trans hzx hg2.size;clear hw2;have hw2:=hw3;clear hw3 hg2 hgx hzx k0 k1 k2 k3 k4 k5;obtain⟨k0,k1,k2,k3,k4,k5⟩:=CL.out _ hgy
 go_wp2_with fail
 refine(Yc5 _ B b _ flags 3 hw2 (by omega) F3.out (by omega) hzy).mono ?_;rintro e x0 ⟨rfl,hw3,hg2⟩;rw[E3.out] at hw3;have hgx:=Yal hgy hg2;have hzx:B≤x0.heap.size:=Nat.le_trans hzy hg2.size;clear hw2;have hw2:=hw3;clear hw3 hg2 hgy hzy k0 k1 k2 k3 k4 k5;obtain⟨k0,k1,k2,k3,k4,k5⟩:=CL.out _ hgx
 go_wp2_with fail
 refine(Yc5 _ B b _ fmt 3 hw2 (by omega) F4.out (by omega) hzx).mono ?_;rintro e y0 ⟨rfl,hw3,hg2⟩;rw[E4.out] at hw3;have hgy:=Yal hgx hg2;have hzy:B≤y0.heap.size:=Nat.le_trans hzx hg2.size;clear hw2;have hw2:=hw3;clear hw3 hg2 hgx hzx k0 k1 k2 k3 k4 k5;obtain⟨k0,k1,k2,k3,k4,k5⟩:=CL.out _ hgy
 go_wp2_with fail
 refine(cn _).mono ?_;rintro e u0 ⟨rfl,rfl⟩
 go_wp2_with fail
 refine(Yc5 _ B b _ bi 1 hw2 (by omega) F5.out (by omega) hzy).mono ?_;rintro e x0 ⟨rfl,hw3,hg2⟩;rw[E5.out] at hw3;have hgx:=Yal hgy hg2;have hzx:B≤x0.heap.size:=Nat.le_trans hzy hg2.size;clear hw2;have hw2:=hw3;clear hw3 hg2 hgy hzy k0 k1 k2 k3 k4 k5;obtain⟨k0,k1,k2,k3,k4,k5⟩:=CL.out _ hgx
 go_wp2_with fail
 refine(Yc5 _ B b _ 0 4 hw2 (by omega) F6.out (by omega) hzx).mono ?_;rintro e y0 ⟨rfl,hw3,hg2⟩;rw[E6.out] at hw3;have hgy:=Yal hgx hg2;have hzy:B≤y0.heap.size:=Nat.le_trans hzx hg2.size;clear hw2;have hw2:=hw3;clear hw3 hg2 hgx hzx k0 k1 k2 k3 k4 k5;obtain⟨k0,k1,k2,k3,k4,k5⟩:=CL.out _ hgy
 go_wp2_with fail
 refine(Yc5 _ B b _ quant 5 hw2 (by omega) F7.out (by omega) hzy).mono ?_;rintro e x0 ⟨rfl,hw3,hg2⟩;rw[E7.out] at hw3;have hgx:=Yal hgy hg2;have hzx:B≤x0.heap.size:=Nat.le_trans hzy hg2.size;clear hw2;have hw2:=hw3;clear hw3 hg2 hgy hzy k0 k1 k2 k3 k4 k5;obtain⟨k0,k1,k2,k3,k4,k5⟩:=CL.out _ hgx
 go_wp2_with fail
 refine(Yc5 _ B b _ 0 1 hw2 (by omega) F8.out (by omega) hzx).mono ?_;rintro e y0 ⟨rfl,hw3,hg2⟩;rw[E8.out] at hw3;have hgy:=Yal hgx hg2;have hzy:B≤y0.heap.size:=Nat.le_trans hzx hg2.size;clear hw2;have hw2:=hw3;clear hw3 hg2 hgx hzx k0 k1 k2 k3 k4 k5;obtain⟨k0,k1,k2,k3,k4,k5⟩:=CL.out _ hgy
 go_wp2
 clear k0 k1 k2 k3 k4 k5 cn F1 F2 F3 F4 F5 F6 F7 E1 E2 E3 E4 E5 E6 E7 hA
 go_loopw [44] (fun i wr=>∃j:Nat,j≤supp.length∧i=.int .i64 j∧Yep wr B b (R8++Yff (supp.take j))∧w1.grownBy wr (some b)∧B≤wr.heap.size) (fun i _=>supp.length-(RowKit.intOf i).toNat)
 case atStart=>exact⟨0,Nat.zero_le _,rfl,by rw[List.take_zero];show Yep _ B b (R8++[]);rw[List.append_nil];exact hw2,hgy,hzy⟩
 case round=>
  clear hw2 hgy hzy;obtain⟨j,hj,rfl,hw2,hgy,hzy⟩:=hrel;have hlj:=HSL.out j hj;by_cases hlt:j<supp.length
  ·have t1:decide ((j:Int)<(supp.length:Int))=true:=by simp;omega
   obtain⟨b1,o1,rfl,hb1,hc1⟩:=(HS.out _ hgy).hold (by omega);have k0:=hc1 _ (Below.refl _ _) j hlt;obtain⟨v0,v1⟩:=HSB.out j hlt;have hsf:=HSF.out j hlt;clear HS HSB HSF HSL hc1;obtain⟨v,hv⟩:∃v,supp.getD j 0=v:=⟨_,rfl⟩;rw[hv] at k0 v0 v1 hsf;obtain⟨S0,hS0⟩:∃S,Yff (supp.take j)=S:=⟨_,rfl⟩;obtain⟨S1,hS1⟩:∃S,Yff (supp.take (j+1))=S:=⟨_,rfl⟩;rw[hS0,hS1] at hsf;rw[hS0] at hw2 hlj
   have FB:=Lib.hid (Yee (v:=v) (n:=8) (by omega) v0 (by show _<(2:Int)^8;omega));have HS1:=Lib.hid hS1;have SQ:Hid (R8++S0++Ya5 (1:Int).toNat (1:Int).toNat++Ya5 v.toNat (8:Int).toNat=R8++S1):=Lib.hid (by rw[←hsf];simp only[List.append_assoc];rfl);clear hv hS0 hS1 hsf;have hS0l:(R8++S0).length≤r.length+200:=by rw[List.length_append];omega
   have hS1l:(R8++S0++Ya5 (1:Int).toNat (1:Int).toNat).length≤r.length+201:=by rw[List.length_append,Yay];have e:(1:Int).toNat=1:=rfl;omega
   go_wp2_with fail
   refine(Yc5 _ B b _ 1 1 hw2 (by omega) F9.out (by omega) hzy).mono ?_;rintro e x1 ⟨rfl,hw3,hg2⟩;have hgx:=Yal hgy hg2;have hzx:B≤x1.heap.size:=Nat.le_trans hzy hg2.size;clear hw2 hg2 hgy hzy k0
   go_wp2_with fail
   refine(Yc5 _ B b _ v 8 hw3 (by omega) FB.out (by omega) hzx).mono ?_;rintro e x2 ⟨rfl,hw4,hg2⟩;rw[SQ.out] at hw4;have hgy:=Yal hgx hg2;have hzy:B≤x2.heap.size:=Nat.le_trans hzx hg2.size;clear hw3 hg2 hgx hzx
   go_wp2
   go_roundw
   case rel=>exact⟨j+1,by omega,by go_num,by rw[HS1.out];exact hw4,hgy,hzy⟩
   case measure=>simp[RowKit.intOf];omega
  ·obtain rfl:supp.length=j:=by omega
   have t1:decide ((supp.length:Int)<(supp.length:Int))=false:=by simp
   rw[SN.out] at hw2 hlj;have FN:Hid (R8++Yff supp++Ya5 (0:Int).toNat (1:Int).toNat=FR):=Lib.hid (by rw[←FIN.out];simp only[List.append_assoc];rfl);have hS0l:(R8++Yff supp).length≤r.length+200:=by rw[List.length_append];omega
   clear HS HSB HSF HSL FIN
   go_wp2_with fail
   refine(Yc5 _ B b _ 0 1 hw2 (by omega) F8.out (by omega) hzy).mono ?_;rintro e x1 ⟨rfl,hw3,hg2⟩;rw[FN.out] at hw3;have hgx:=Yal hg1 (Yal hgy hg2);clear hw2 hg2 hgy hzy hg1
   go_wp2
   go_ret
   exact⟨rfl,hw3,hgx⟩
theorem Y1m {l:List Int}{j:Nat}(hj:j<l.length)(h:Ycp (l.getD j 0)=false):l.all Ycp=false:=by
 rw[List.all_eq_false];refine⟨l[j],List.getElem_mem hj,?_⟩;rw[show l.getD j 0=l[j] by simp[List.getD,hj]] at h;rw[h];decide
theorem Yvr {x:Int}(h:x<0∨255<x):Ycp x=false:=decide_eq_false (by omega)
theorem Yza {x:Int}(h:¬ x<0)(h2:¬ 255<x):Ycp x=true:=decide_eq_true (by omega)
theorem Yyl (h:Shd):Ycw h=(!decide (h.ref<0)&&(!decide (255<h.ref)&&(!decide (h.flags<0)&&(!decide (7<h.flags)&&(Yb6 h.fmt&&(!decide (h.quant<1)&&(!decide (31<h.quant)&&(!decide (8<(h.supp.length:Int))&&h.supp.all Ycp)))))))):=by
 rw[Bool.eq_iff_iff,Yh9];simp only[Bool.and_eq_true,Bool.not_eq_true',decide_eq_false_iff_not,List.all_eq_true];unfold Yb6 Ycp;simp only[decide_eq_true_iff];constructor
 ·rintro⟨⟨a,b,c,d,e,f⟩,g,i,j⟩;exact⟨by omega,by omega,by omega,by omega,g,by omega,by omega,by omega,j⟩
 ·rintro⟨a,b,c,d,g,e,f,i,j⟩;exact⟨by omega,g,by omega,j⟩
set_option maxRecDepth 100000 in
set_option maxHeartbeats 4000000 in
theorem Yqz (h:Shd)(p:Option Addr)(cap:Nat)(rw_:Value)(z:Int)(hl:h.supp.length≤maxLen)(w:World)(hs:Ydf w p h.supp):
  Calls Tryz.prog 33 #[.agg (Yaz h (.slice p h.supp.length cap) rw_ z).toArray] w fun e w'=>e=.returned (.bool (Ycw h))∧Below w.heap.size w w':=by
 unfold maxLen at hl;rw[Yyl];obtain⟨ref,flags,fmt,inter,quant,supp⟩:=h;have c5:=fun w=>Yop fmt w;have e5:=Yzb fmt;unfold Yaz;dsimp only at *;obtain⟨A,hA⟩:∃A,w.heap.size=A:=⟨_,rfl⟩;obtain⟨wA,hwA⟩:∃wA,w.alloc (.cells #[.int .i64 ref,.int .i64 flags,.int .i64 fmt,.bool inter,.int .i64 quant,.slice p supp.length cap,rw_,.int .i64 z] 29 (0,0))=wA:=⟨_,rfl⟩
 have hb0:Below w.heap.size w wA:=by rw[←hwA];exact(Below.refl _ w).alloc (Nat.le_refl _) _
 have hh:wA.heap[A]? =some (.cells [.int .i64 ref,.int .i64 flags,.int .i64 fmt,.bool inter,.int .i64 quant,.slice p supp.length cap,rw_,.int .i64 z].toArray 29 (0,0)):=by rw[←hwA,←hA];exact heap_alloc_new w _
 have CL:Hid (∀x,Below wA.heap.size wA x→(x.cell? ⟨A,4,none⟩=some (.int .i64 quant)∧x.cell? ⟨A,5,none⟩=some (.slice p supp.length cap))∧Ydf x p supp∧Below w.heap.size w x):=Lib.hid fun x hx=>by
  have h2:=(hx.block A (by rw[←hwA,←hA];simp)).trans hh;exact⟨⟨Yac h2 rfl,Yac h2 rfl⟩,(hs.below hb0).below hx,hb0.trans (hx.mono hb0.size)⟩
 have hcl:wA.cell? ⟨A,0,none⟩=some (.int .i64 ref)∧wA.cell? ⟨A,1,none⟩=some (.int .i64 flags)∧wA.cell? ⟨A,2,none⟩=some (.int .i64 fmt):=⟨Yac hh rfl,Yac hh rfl,Yac hh rfl⟩;have HWA:=Lib.hid hwA;have HA:=Lib.hid hA;obtain⟨d1,h1⟩:∃b,decide (ref<0)=b:=⟨_,rfl⟩;obtain⟨d2,h2⟩:∃b,decide (255<ref)=b:=⟨_,rfl⟩;obtain⟨d3,h3⟩:∃b,decide (flags<0)=b:=⟨_,rfl⟩;obtain⟨d4,h4⟩:∃b,decide (7<flags)=b:=⟨_,rfl⟩
 obtain⟨d5,h5⟩:∃b,Yb6 fmt=b:=⟨_,rfl⟩;obtain⟨d6,h6⟩:∃b,decide (quant<1)=b:=⟨_,rfl⟩;obtain⟨d7,h7⟩:∃b,decide (31<quant)=b:=⟨_,rfl⟩;obtain⟨d8,h8⟩:∃b,decide (8<(supp.length:Int))=b:=⟨_,rfl⟩;rw[h5] at e5;rw[h1,h2,h3,h4,h5,h6,h7,h8];have yes:=fun(h:(supp.take supp.length).all Ycp=true)=>(List.take_length (l:=supp)▸h:supp.all Ycp=true)
 have no:=fun j (hj:j<supp.length) (h:Ycp (supp.getD j 0)=false)=>Y1m hj h;obtain⟨AL,hAL⟩:∃b,supp.all Ycp=b:=⟨_,rfl⟩;rw[hAL] at yes no ⊢;have YES:=Lib.hid yes;have NO:=Lib.hid no;obtain⟨M,hM⟩:∃M:Int,(Ybg fmt:Int)=M:=⟨_,rfl⟩;rw[hM] at c5 e5;have hB:d1=true∨(d1=false∧d2=true)∨(d1=false∧d2=false∧d3=true)∨(d1=false∧d2=false∧d3=false∧d4=true)∨(d1=false∧d2=false∧d3=false∧d4=false∧d5=false)
   ∨(d1=false∧d2=false∧d3=false∧d4=false∧d5=true∧d6=true)∨(d1=false∧d2=false∧d3=false∧d4=false∧d5=true∧d6=false∧d7=true)∨(d1=false∧d2=false∧d3=false∧d4=false∧d5=true∧d6=false∧d7=false∧d8=true)
   ∨(d1=false∧d2=false∧d3=false∧d4=false∧d5=true∧d6=false∧d7=false∧d8=false):=by
  clear h1 h2 h3 h4 h5 h6 h7 h8 e5;cases d1 <;> cases d2 <;> cases d3 <;> cases d4 <;> cases d5 <;> cases d6 <;> cases d7 <;> cases d8 <;> simp
 clear h5 hM hwA hA hs hh hAL yes no;rcases hB with rfl|⟨rfl,rfl⟩|⟨rfl,rfl,rfl⟩|⟨rfl,rfl,rfl,rfl⟩|⟨rfl,rfl,rfl,rfl,rfl⟩|⟨rfl,rfl,rfl,rfl,rfl,rfl⟩|⟨rfl,rfl,rfl,rfl,rfl,rfl,rfl⟩|⟨rfl,rfl,rfl,rfl,rfl,rfl,rfl,rfl⟩|⟨rfl,rfl,rfl,rfl,rfl,rfl,rfl,rfl⟩
 case _|_|_|_=>
  clear c5 e5 CL
  go_enter Tryz.func33,Tryz.ntmps33
  go_wp2
  go_ret
  rw[HWA.out];exact⟨rfl,hb0⟩
 case _|_|_|_=>
  simp only[Bool.not_false,Bool.not_true] at e5
  go_enter Tryz.func33,Tryz.ntmps33
  go_wp2_with fail
  rw[HWA.out];refine(c5 _).mono ?_;rintro e w1 ⟨rfl,hb1⟩;rw[HA.out];obtain⟨⟨k4,k5⟩,-,hb2⟩:=CL.out _ hb1
  go_wp2
  go_ret
  exact⟨rfl,hb2⟩
 simp only[Bool.not_true] at e5
 go_enter Tryz.func33,Tryz.ntmps33
 go_wp2_with fail
 rw[HWA.out];refine(c5 _).mono ?_;rintro e w1 ⟨rfl,hb1⟩;rw[HA.out];obtain⟨⟨k4,k5⟩,hil,hb2⟩:=CL.out _ hb1;clear CL hcl hb0 hb1 c5
 go_wp2
 clear k4 h1 h2 h3 h4 h6 h7 e5
 go_loop [3] (fun i=>∃j:Nat,j≤supp.length∧i=.int .i64 j∧Hid ((supp.take j).all Ycp=true)) (fun i=>supp.length-(intOf i).toNat)
 case atStart=>exact⟨0,Nat.zero_le _,rfl,Lib.hid rfl⟩
 case round=>
  obtain⟨j,hj,rfl,ha⟩:=hrel;by_cases hlt:j<supp.length
  ·have t1:decide ((j:Int)<(supp.length:Int))=true:=by simp;omega
   obtain⟨b1,o1,rfl,hb1,hc1⟩:=hil.hold (by omega);have k0:=hc1 _ (Below.refl _ _) j hlt;have hM:=fun h=>Yk3 hlt ha.out h;have hN:=NO.out j hlt;clear hc1 YES NO hil;generalize supp.getD j 0=x at *;by_cases hx0:x<0
   ·have N:=Lib.hid (hN (Yvr (.inl hx0)));clear hM hN
    go_wp2
    go_ret
    exact⟨by rw[N.out];rfl,hb2⟩
   ·by_cases hx1:255<x
    ·have N:=Lib.hid (hN (Yvr (.inr hx1)));clear hM hN
     go_wp2
     go_ret
     exact⟨by rw[N.out];rfl,hb2⟩
    ·have M:=Lib.hid (hM (Yza hx0 hx1));clear hM hN
     go_wp2
     go_round
     case rel=>exact⟨j+1,by omega,by go_num,M⟩
     case measure=>simp[intOf];omega
  ·obtain rfl:supp.length=j:=by omega
   have t1:decide ((supp.length:Int)<(supp.length:Int))=false:=by simp
   have Y:=Lib.hid (YES.out ha.out);clear YES NO ha hil
   go_wp2
   go_ret
   exact⟨by rw[Y.out];rfl,hb2⟩
end Go.Proofs.YtnamlooifcpoaaaGreatDoor