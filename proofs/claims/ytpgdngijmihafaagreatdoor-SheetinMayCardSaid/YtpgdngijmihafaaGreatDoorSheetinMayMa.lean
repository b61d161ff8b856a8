/- Texts that SheetinMay's proof stands on, part 1 of 52. No condition of its own. -/
import Derived.OpenShut
import Derived.IntWalk
namespace Go.Proofs.YtpgdngijmihafaaGreatDoor
def Yfp (b:Nat):UInt8:=if b%2=0 then 48 else 49
def Yau (v:Nat):Nat→List UInt8
 | 0=> []
 | n+1=> Yfp (v / 2^n)::Yau v n
theorem Yao (v n:Nat):(Yau v n).length=n:=by
 induction n with
 | zero=> rfl
 | succ n ih=> simp [Yau,ih]
def Yax (l:List UInt8):Bool:=l.all (fun c=> c==48 || c==49)
theorem Y02 (b:Nat):(Yfp b==48 || Yfp b==49)=true:=by
 unfold Yfp
 split <;> rfl
theorem Yh8 (v n:Nat):Yax (Yau v n)=true:=by
 induction n with
 | zero=> rfl
 | succ n ih=>
  show ((Yfp (v / 2^n)==48 || Yfp (v / 2^n)==49)&&Yax (Yau v n))=true
  rw [ih,Y02];rfl
def Yc1 (a:Nat):List UInt8→Nat
 | []=> a
 | c::l=> Yc1 (2*a+(c.toNat-48)) l
def num (l:List UInt8):Nat:=Yc1 0 l
theorem Ycn (a:Nat) (l m:List UInt8):Yc1 a (l++m)=Yc1 (Yc1 a l) m:=by
 induction l generalizing a with
 | nil=> rfl
 | cons c l ih=> exact ih _
theorem Y9t (l:List UInt8):(⟨l.toArray⟩:ByteArray).size=l.length:=List.size_toArray
def Yac (l:List UInt8):List UInt8:=l.flatMap fun c=> Yau c.toNat 8
theorem Yjm (l m:List UInt8):Yac (l++m)=Yac l++Yac m:=by simp [Yac]
theorem Yah (l:List UInt8):(Yac l).length=8*l.length:=by
 induction l with
 | nil=> rfl
 | cons c l ih=>
  have e:Yac (c::l)=Yau c.toNat 8++Yac l:=by simp [Yac]
  rw [e,List.length_append,Yao,ih,List.length_cons];omega
theorem Ycg (l m:List UInt8):Yax (l++m)=(Yax l&&Yax m):=by simp [Yax]
theorem Ybw (l:List UInt8) (j:Nat) (h:Yax l=true):Yax (l.take j)=true:=by
 unfold Yax at h ⊢
 rw [List.all_eq_true] at h ⊢
 exact fun c hc=> h c (List.mem_of_mem_take hc)
theorem Yba (l:List UInt8) (j:Nat) (h:Yax l=true):Yax (l.drop j)=true:=by
 unfold Yax at h ⊢
 rw [List.all_eq_true] at h ⊢
 exact fun c hc=> h c (List.mem_of_mem_drop hc)
theorem Yh0 (l:List UInt8) (j:Nat) (hj:j<l.length) (h:Yax l=true):l[j].toNat=48∨l[j].toNat=49:=by
 unfold Yax at h
 rw [List.all_eq_true] at h
 have:=h l[j] (List.getElem_mem hj)
 simp only [Bool.or_eq_true,beq_iff_eq] at this
 rcases this with e | e <;> rw [e]
 ·exact .inl rfl
 ·exact .inr rfl
theorem Yos (k:Nat):Yax (List.replicate k 48)=true:=by
 unfold Yax
 rw [List.all_eq_true]
 intro c hc
 rw [List.eq_of_mem_replicate hc]
 rfl
theorem Y51 (l:List UInt8) (j:Nat) (h:j<l.length):num (l.take (j+1))=2*num (l.take j)+(l[j].toNat-48):=by
 rw [List.take_succ_eq_append_getElem h]
 exact Ycn 0 _ _
theorem Ym5 (l:List UInt8) (h:Yax l=true) (j:Nat) (hj:j≤l.length):num (l.take j)<2^j:=by
 induction j with
 | zero=> rw [List.take_zero];decide
 | succ j ih=>
  have:=ih (by omega)
  rw [Y51 l j hj,Nat.pow_succ]
  rcases Yh0 l j hj h with e | e <;> omega
end Go.Proofs.YtpgdngijmihafaaGreatDoor
namespace Go.Proofs.YtpgdngijmihafaaGreatDoor
open Go.RowKit
theorem Yct {k:IntKind} {a b:Int} (h:a=b):Ending.returned (.int k a) = .returned (.int k b):=by rw [h]
theorem Yak {a b:Bool} (h:a=b):Ending.returned (.bool a) = .returned (.bool b):=by rw [h]
theorem Yjy {n:Int} (h:-9223372036854775808≤n∧n≤9223372036854775807):IntKind.i64.wrap n=n:=by
 rw [IntKind.wrap_i64]
 omega
theorem Y3q {n:Nat} (h:n≤9223372036854775807):IntKind.i64.wrap (n:Int)=(n:Int):=Yjy (by omega)
def Y7n (n lo hi:Int):Int:=max lo (min n hi)
def Yji (a b c:Int):Int:=max (min a b) (min (max a b) c)
def Ycw (n:Int):Int:=(n+32)%64-32
theorem Yp0 (n:Int):-32≤Ycw n:=by unfold Ycw;omega
theorem Ypz (n:Int):Ycw n≤31:=by unfold Ycw;omega
theorem Ye8 (n:Int) (k:Nat) (hk:k≤62):bits .and .i64 n ((2:Int)^k-1)=n%(2:Int)^k:=by
 have hpn:(2:Nat)^k≤2^62:=Nat.pow_le_pow_right (by omega) hk
 have hp1:1≤(2:Nat)^k:=Nat.one_le_two_pow
 have hpc:((2:Int)^k)=(((2:Nat)^k:Nat):Int):=by simp
 have h2:(BitVec.ofInt 64 ((2:Int)^k-1)).toNat=2^k-1:=by
  rw [hpc,show ((((2:Nat)^k:Nat):Int)-1)=((2^k-1:Nat):Int) by omega,BitVec.ofInt_natCast,BitVec.toNat_ofNat]
  exact Nat.mod_eq_of_lt (by omega)
 have h1:(BitVec.ofInt 64 n).toNat=(n%18446744073709551616).toNat:=by rw [BitVec.toNat_ofInt];rfl
 show IntKind.i64.wrap ((BitVec.ofInt 64 n &&& BitVec.ofInt 64 ((2:Int)^k-1)).toNat:Int)=_
 rw [BitVec.toNat_and,h1,h2,Nat.and_two_pow_sub_one_eq_mod,hpc,IntKind.wrap_i64]
 have hd:(((2:Nat)^k:Nat):Int) ∣ 18446744073709551616:=by
  have e:(18446744073709551616:Nat)=2^64:=by decide
  have d:(2:Nat)^k ∣ (18446744073709551616:Nat):=by rw [e];exact Nat.pow_dvd_pow 2 (by omega)
  exact Int.natCast_dvd_natCast.2 d
 have hm:((((n%18446744073709551616).toNat%2^k:Nat)):Int)=n%(((2:Nat)^k:Nat):Int):=by
  rw [Int.natCast_emod,Int.toNat_of_nonneg (Int.emod_nonneg _ (by omega)),Int.emod_emod_of_dvd _ hd]
 rw [hm]
 have:=Int.emod_nonneg n (b:=(((2:Nat)^k:Nat):Int)) (by omega)
 have:=Int.emod_lt_of_pos n (b:=(((2:Nat)^k:Nat):Int)) (by omega)
 omega
theorem Y7h (n:Int):bits .and .i64 n 63=n%64:=Ye8 n 6 (by omega)
def round (n bits:Int):Int:=
 if Y7n bits 0 32=0 then Y7n n (-1099511627776) 1099511627776
 else (Y7n n (-1099511627776) 1099511627776+2^((Y7n bits 0 32).toNat-1)) / 2^(Y7n bits 0 32).toNat
theorem Y57 (k:Nat) (h:k≤32):1≤(2:Int)^k∧(2:Int)^k≤4294967296:=by
 have h1:(2:Nat)^k≤2^32:=Nat.pow_le_pow_right (by omega) h
 have h2:1≤(2:Nat)^k:=Nat.one_le_two_pow
 have h3:((2:Int)^k)=(((2:Nat)^k:Nat):Int):=by simp
 omega
def Y0c (c:List UInt8):Nat:=num c*2^(8-c.length)
def Ybn (r:List UInt8) (i:Nat):Nat:=Y0c ((r.drop (8*i)).take 8)
theorem Yv4 (c:List UInt8) (d:UInt8):num (c ++ [d])=2*num c+(d.toNat-48):=Ycn 0 c [d]
theorem Yuf (c:List UInt8) (m:Nat):num (c++List.replicate m 48)=num c*2^m:=by
 induction m with
 | zero=> simp
 | succ m ih=>
  rw [List.replicate_succ',←List.append_assoc,Yv4,ih,Nat.pow_succ,←Nat.mul_assoc (num c)]
  have:((48:UInt8).toNat-48)=0:=rfl
  omega
theorem Yh6 (c:List UInt8) (h:Yax c=true):num c<2^c.length:=by
 have:=Ym5 c h c.length (Nat.le_refl _)
 rwa [List.take_of_length_le (Nat.le_refl _)] at this
theorem Ykt (r:List UInt8) (i:Nat):((r.drop (8*i)).take 8).length=min 8 (r.length-8*i):=by simp
theorem Y0n (r:List UInt8) (i:Nat) (h:Yax r=true):Yax ((r.drop (8*i)).take 8)=true:=Ybw _ _ (Yba _ _ h)
theorem Y4p (c:List UInt8) (h:Yax c=true) (hl:c.length≤8):Y0c c<256:=by
 have h1:=Yh6 c h
 have h2:num c*2^(8-c.length)<2^c.length*2^(8-c.length):=Nat.mul_lt_mul_of_pos_right h1 (Nat.two_pow_pos _)
 rw [←Nat.pow_add,show c.length+(8-c.length)=8 by omega] at h2
 exact h2
theorem Y0b (r:List UInt8) (i:Nat) (h:Yax r=true):Ybn r i<256:=Y4p _ (Y0n r i h) (by rw [Ykt];omega)
theorem Ygz (r:List UInt8) (i:Nat) (h:r.length≤8*i):Ybn r i=0:=by
 unfold Ybn Y0c
 rw [List.drop_eq_nil_of_le h]
 rfl
theorem Ykn (r e:List UInt8) (i:Nat) (h:8*i+8≤r.length):Ybn (r++e) i=Ybn r i:=by
 unfold Ybn
 rw [List.drop_append_of_le_length (by omega),List.take_append_of_le_length (by rw [List.length_drop];omega)]
theorem Y0m (r:List UInt8) (d:UInt8):((r ++ [d]).drop (8*(r.length / 8))).take 8=(r.drop (8*(r.length / 8))).take 8 ++ [d]:=by
 rw [List.drop_append_of_le_length (by omega),List.take_of_length_le (l:=r.drop _) (by rw [List.length_drop];omega),List.take_of_length_le (by rw [List.length_append,List.length_drop,List.length_singleton];omega)]
theorem Yfv (r:List UInt8) (d:UInt8):Ybn (r ++ [d]) (r.length / 8)=Ybn r (r.length / 8)+(d.toNat-48)*2^(7-r.length%8):=by
 unfold Ybn
 rw [Y0m]
 have hl:((r.drop (8*(r.length / 8))).take 8).length=r.length%8:=by rw [Ykt];omega
 generalize (r.drop (8*(r.length / 8))).take 8=c at hl
 unfold Y0c
 rw [Yv4,List.length_append,List.length_singleton,hl,show 8-(r.length%8+1)=7-r.length%8 by omega,show 8-r.length%8=7-r.length%8+1 by omega,Nat.pow_succ,Nat.add_mul]
 congr 1
 rw [Nat.mul_comm 2 (num c),Nat.mul_assoc,Nat.mul_comm 2]
theorem Yfl (r:List UInt8) (d:UInt8) (i:Nat) (h:i≠r.length / 8):Ybn (r ++ [d]) i=Ybn r i:=by
 by_cases hi:8*i+8≤r.length
 ·exact Ykn r [d] i hi
 ·rw [Ygz r i (by omega),Ygz _ i (by rw [List.length_append,List.length_singleton];omega)]
theorem Yod (r:List UInt8) (i:Nat):Ybn (r ++ [48]) i=Ybn r i:=by
 by_cases hi:i=r.length / 8
 ·subst hi
  rw [Yfv,show ((48:UInt8).toNat-48)=0 from rfl];omega
 ·exact Yfl r 48 i hi
theorem Yw8 (r:List UInt8):Ybn (r ++ [49]) (r.length / 8)=Ybn r (r.length / 8)+2^(7-r.length%8):=by
 rw [Yfv,show ((49:UInt8).toNat-48)=1 from rfl];omega
theorem Yw7 (r:List UInt8):∃A,Ybn r (r.length / 8)=2^(8-r.length%8)*A:=by
 refine ⟨num ((r.drop (8*(r.length / 8))).take 8),?_⟩
 unfold Ybn Y0c
 rw [Ykt,show min 8 (r.length-8*(r.length / 8))=r.length%8 by omega,Nat.mul_comm]
theorem Qat (x j A:Nat) (hj:j<8) (hx:x=2^(8-j)*A) (h:x<256):bits .or .u8 (x:Int) (128 / 2^j)=((x+2^(7-j):Nat):Int):=by
 have e1:(128:Int) / 2^j=((2^(7-j):Nat):Int):=by
  have e:(128:Int)=2^(7-j)*2^j:=by rw [←Int.pow_add,show 7-j+j=7 by omega];rfl
  rw [e,Int.mul_ediv_cancel _ (by have:(0:Int)<2^j:=Int.pow_pos (by decide);omega)]
  simp
 have hb:(2:Nat)^(7-j)<2^(8-j):=Nat.pow_lt_pow_right (by omega) (by omega)
 have hor:=Nat.two_pow_add_eq_or_of_lt hb A
 rw [←hx] at hor
 have hp:2^(7-j)≤2^7:=Nat.pow_le_pow_right (by omega) (by omega)
 have hlt:x ||| 2^(7-j)<2^8:=Nat.or_lt_two_pow (by omega) (by omega)
 rw [e1]
 show IntKind.u8.wrap ((BitVec.ofInt 8 (x:Int) ||| BitVec.ofInt 8 ((2^(7-j):Nat):Int)).toNat:Int)=_
 rw [BitVec.ofInt_natCast,BitVec.ofInt_natCast,BitVec.toNat_or,BitVec.toNat_ofNat,BitVec.toNat_ofNat,Nat.mod_eq_of_lt (by omega:x<2^8),Nat.mod_eq_of_lt (by omega:2^(7-j)<2^8),←hor]
 rw [←hor] at hlt
 have:IntKind.u8.wrap ((x+2^(7-j):Nat):Int)=((x+2^(7-j):Nat):Int)%256:=rfl
 rw [this]
 omega
end Go.Proofs.YtpgdngijmihafaaGreatDoor
namespace Go.Proofs.YtpgdngijmihafaaGreatDoor
theorem Yxn (c:UInt8) (h:c=48∨c=49):Yfp (c.toNat-48)=c:=by
 rcases h with rfl | rfl <;> rfl
theorem Yxv (c:UInt8) (l:List UInt8):Yax (c::l)=((c==48 || c==49)&&Yax l):=rfl
theorem Ym1 {c:UInt8} {l:List UInt8} (h:Yax (c::l)=true):(c=48∨c=49)∧Yax l=true:=by
 rw [Yxv] at h
 simpa using h
theorem Y2l (v x n:Nat) (h:v%2^n=x%2^n):Yau v n=Yau x n:=by
 induction n generalizing v x with
 | zero=> rfl
 | succ n ih=>
  have hp:(2:Nat)^(n+1)=2^n*2:=Nat.pow_succ 2 n
  have h1:v%2^n=x%2^n:=by
   have e1:=Nat.mod_mul_right_mod v (2^n) 2
   have e2:=Nat.mod_mul_right_mod x (2^n) 2
   rw [←hp] at e1 e2
   rw [←e1,←e2,h]
  have h2:v / 2^n%2=x / 2^n%2:=by
   have e1:=Nat.mod_mul_right_div_self v (2^n) 2
   have e2:=Nat.mod_mul_right_div_self x (2^n) 2
   rw [←hp] at e1 e2
   rw [←e1,←e2,h]
  show Yfp (v / 2^n)::Yau v n=Yfp (x / 2^n)::Yau x n
  rw [ih v x h1]
  congr 1
  unfold Yfp
  rw [h2]
theorem Yd8 (a:Nat):Yc1 a []=a:=rfl
theorem Yf5 (a:Nat) (c:UInt8) (l:List UInt8):Yc1 a (c::l)=Yc1 (2*a+(c.toNat-48)) l:=Ycn a [c] l
section
attribute [local irreducible] Yc1
theorem Yfe (a:Nat) (l:List UInt8):Yc1 a l=a*2^l.length+num l:=by
 unfold num
 induction l generalizing a with
 | nil=> rw [Yd8,Yd8,List.length_nil];simp
 | cons c l ih=>
  rw [Yf5,Yf5,ih,ih (2*0+(c.toNat-48)),List.length_cons,Nat.pow_succ]
  generalize 2^l.length=x
  generalize Yc1 0 l=y
  generalize c.toNat-48=z
  rw [Nat.mul_zero,Nat.zero_add,Nat.add_mul,Nat.mul_comm 2 a,Nat.mul_assoc,Nat.mul_comm 2 x,Nat.add_assoc]
theorem Yo5 (c:UInt8) (l:List UInt8):num (c::l)=(c.toNat-48)*2^l.length+num l:=by
 unfold num
 rw [Yf5,Yfe,Nat.mul_zero,Nat.zero_add]
 rfl
end
theorem Yhc:∀l:List UInt8,Yax l=true→Yau (num l) l.length=l
 | [],_=> rfl
 | c::l,h=> by
  obtain ⟨hc,hl⟩:=Ym1 h
  have hn:=Yo5 c l
  have hlt:=Yh6 l hl
  show Yfp (num (c::l) / 2^l.length)::Yau (num (c::l)) l.length=c::l
  rw [hn,Nat.mul_comm,Nat.mul_add_div (Nat.two_pow_pos _),Nat.div_eq_of_lt hlt,Nat.add_zero,Yxn c hc]
  congr 1
  rw [Y2l _ (num l) l.length (by rw [Nat.mul_add_mod])]
  exact Yhc l hl
end Go.Proofs.YtpgdngijmihafaaGreatDoor
namespace Go.Proofs.YtpgdngijmihafaaGreatDoor
open Go.RowKit
def gap (n:Nat):Nat:=(8-n%8)%8
def Ykm (a:Nat):List UInt8→Nat
 | []=> a
 | c::l=> Ykm (256*a+c.toNat) l
def Y4k (l:List UInt8):Nat:=Ykm 0 l
theorem Yqi (a:Nat) (l m:List UInt8):Ykm a (l++m)=Ykm (Ykm a l) m:=by
 induction l generalizing a with
 | nil=> rfl
 | cons c l ih=> exact ih _
theorem Yz8 (l:List UInt8) (j:Nat) (h:j<l.length):Y4k (l.take (j+1))=256*Y4k (l.take j)+l[j].toNat:=by
 rw [List.take_succ_eq_append_getElem h]
 exact Yqi 0 _ _
theorem Y4i (l:List UInt8) (a:Nat):Ykm a l<(a+1)*256^l.length:=by
 induction l generalizing a with
 | nil=> simp [Ykm]
 | cons c l ih=>
  have h1:=ih (256*a+c.toNat)
  have h2:=c.toNat_lt
  have h3:(256*a+c.toNat+1)*256^l.length≤((a+1)*256)*256^l.length:=Nat.mul_le_mul_right _ (by omega)
  rw [List.length_cons,Nat.pow_succ,Nat.mul_comm (256^l.length),←Nat.mul_assoc]
  exact Nat.lt_of_lt_of_le h1 h3
theorem Y8e (l:List UInt8) (k:Nat) (h:l.length≤k):Y4k l<256^k:=by
 have h1:=Y4i l 0
 have h2:256^l.length≤256^k:=Nat.pow_le_pow_right (by omega) h
 unfold Y4k
 omega
section
attribute [local irreducible] Yc1
theorem Yd1 (l m:List UInt8):num (l++m)=num l*2^m.length+num m:=by
 unfold num
 rw [Ycn,Yfe]
 rfl
theorem Yf6 (v n:Nat):num (Yau v n)=v%2^n:=by
 induction n with
 | zero=> simp [Yau,num,Yd8,Nat.mod_one]
 | succ n ih=>
  rw [Yau,Yo5,ih,Yao,Nat.mod_pow_succ]
  have:(Yfp (v / 2^n)).toNat-48=v / 2^n%2:=by
   generalize v / 2^n=y
   unfold Yfp
   rcases (by omega:y%2=0∨y%2=1) with h | h
   ·rw [if_pos h,h];rfl
   ·rw [if_neg (by omega),h];rfl
  rw [this,Nat.mul_comm,Nat.add_comm]
theorem Ynk (c:UInt8) (l:List UInt8):Yac (c::l)=Yau c.toNat 8++Yac l:=by simp [Yac]
theorem Y25 (l:List UInt8) (a:Nat):Yc1 a (Yac l)=Ykm a l:=by
 induction l generalizing a with
 | nil=> rw [show Yac [] = [] from rfl,Yd8];rfl
 | cons c l ih=>
  rw [Ynk,Ycn,ih,Yfe,Yao,Yf6,Nat.mod_eq_of_lt (by have:=c.toNat_lt;omega),Ykm,Nat.mul_comm]
end
theorem Y6o (l:List UInt8):num (Yac l)=Y4k l:=Y25 l 0
theorem Yc4 (l:List UInt8):Yax (Yac l)=true:=by
 induction l with
 | nil=> rfl
 | cons c l ih=> rw [Ynk,Ycg,Yh8,ih];rfl
theorem Y9e (A X C:List UInt8) (hx:Yax X=true) (hc:Yax C=true):num (A++X++C) / 2^C.length%2^X.length=num X:=by
 rw [Yd1,Yd1,Nat.add_comm,Nat.add_mul_div_right _ _ (Nat.two_pow_pos _),Nat.div_eq_of_lt (Yh6 C hc),Nat.zero_add,Nat.add_comm,Nat.add_mul_mod_self_right,Nat.mod_eq_of_lt (Yh6 X hx)]
theorem Yyt (l:List UInt8) (f k:Nat) (h:f+k≤l.length):Yac ((l.drop f).take k)=((Yac l).drop (8*f)).take (8*k):=by
 have e:l=l.take f++((l.drop f).take k++(l.drop f).drop k):=by rw [List.take_append_drop,List.take_append_drop]
 have e2:Yac l=Yac (l.take f)++(Yac ((l.drop f).take k)++Yac ((l.drop f).drop k)):=by rw [←Yjm,←Yjm,←e]
 rw [e2,List.drop_left' (by rw [Yah,List.length_take,Nat.min_eq_left (by omega)]),List.take_left' (by rw [Yah,List.length_take,List.length_drop,Nat.min_eq_left (by omega)])]
def Ya1 (l:List UInt8) (p n:Nat):Nat:=num (((Yac l).drop p).take n)
theorem Yi7 (l:List UInt8) (f k p n:Nat) (h1:8*f≤p) (h2:p+n≤8*(f+k)) (h3:f+k≤l.length):Y4k ((l.drop f).take k) / 2^(8*(f+k)-p-n)%2^n=Ya1 l p n:=by
 have hr:=Yc4 l
 have hl:=Yah l
 rw [←Y6o,Yyt l f k h3]
 unfold Ya1
 generalize Yac l=S at hr hl
 obtain ⟨T,hT⟩:∃T,(S.drop (8*f)).take (8*k)=T:=⟨_,rfl⟩
 have hTr:Yax T=true:=by rw [←hT];exact Ybw _ _ (Yba _ _ hr)
 have hTl:T.length=8*k:=by rw [←hT,List.length_take,List.length_drop];omega
 have hX:(T.drop (p-8*f)).take n=(S.drop p).take n:=by
  rw [←hT,List.drop_take,List.take_take,List.drop_drop,show min n (8*k-(p-8*f))=n by omega,show 8*f+(p-8*f)=p by omega]
 have hXl:((T.drop (p-8*f)).take n).length=n:=by rw [List.length_take,List.length_drop];omega
 have hCl:((T.drop (p-8*f)).drop n).length=8*(f+k)-p-n:=by rw [List.length_drop,List.length_drop];omega
 have e:T=T.take (p-8*f)++(T.drop (p-8*f)).take n++(T.drop (p-8*f)).drop n:=by rw [List.append_assoc,List.take_append_drop,List.take_append_drop]
 have m:=Y9e (T.take (p-8*f)) ((T.drop (p-8*f)).take n) ((T.drop (p-8*f)).drop n) (Ybw _ _ (Yba _ _ hTr)) (Yba _ _ (Yba _ _ hTr))
 rw [←e,hXl,hCl,hX] at m
 rw [hT]
 exact m
theorem Ybv (l:List UInt8) (p n:Nat):Ya1 l p n<2^n:=by
 have h:=Yh6 _ (Ybw _ n (Yba _ p (Yc4 l)))
 have h2:2^(((Yac l).drop p).take n).length≤2^n:=Nat.pow_le_pow_right (by omega) (by rw [List.length_take];omega)
 exact Nat.lt_of_lt_of_le h h2
def ask (l:List UInt8) (p:Nat) (n:Int):Int×Int:=
 if n<0∨32<n then (0,1) else if 8*(l.length:Int)-p<n then (0,2) else (((Ya1 l p n.toNat:Nat):Int),0)
theorem Yzz {l:List UInt8} {p:Nat} {n:Int} (h:n<0∨32<n):ask l p n=(0,1):=if_pos h
theorem Ybc {l:List UInt8} {p:Nat} {n:Int} (h:0≤n∧n≤32) (h2:8*(l.length:Int)-p<n):ask l p n=(0,2):=by
 unfold ask;rw [if_neg (by omega),if_pos h2]
theorem Yce {l:List UInt8} {p:Nat} {n:Int} (h:0≤n∧n≤32) (h2:n≤8*(l.length:Int)-p):ask l p n=(((Ya1 l p n.toNat:Nat):Int),0):=by
 unfold ask;rw [if_neg (by omega),if_neg (by omega)]
def Yf2 (l:List UInt8) (p:Nat):Int×Int:=if Ya1 l p (gap p)=0 then (((gap p:Nat):Int),0) else (0,5)
def Yb8 (l:List UInt8) (p:Nat) (n:Int):Nat:=if (ask l p n).2=0 then p+n.toNat else p
def Yjf (l:List UInt8) (p:Nat):Nat:=if Ya1 l p (gap p)=0 then p+gap p else p
theorem Y13 (k:Nat):num (List.replicate k 48)=0:=by
 have:=Yuf [] k
 rw [List.nil_append] at this
 rw [this,show num []=0 from rfl,Nat.zero_mul]
def Seg (S:List UInt8) (p q:Nat) (r:List UInt8):Prop:=p≤q∧q≤S.length∧(S.drop p).take (q-p)=r
theorem Seg.nil {S:List UInt8} {p:Nat} (hp:p≤S.length):Seg S p p []:=⟨Nat.le_refl _,hp,by rw [Nat.sub_self];rfl⟩
theorem Seg.app {S:List UInt8} {p q t:Nat} {r s:List UInt8} (h:Seg S p q r) (k:Seg S q t s):Seg S p t (r++s):=by
 obtain ⟨h1,h2,h3⟩:=h
 obtain ⟨k1,k2,k3⟩:=k
 refine ⟨by omega,k2,?_⟩
 rw [show t-p=(q-p)+(t-q) by omega,List.take_add,h3,List.drop_drop,show p+(q-p)=q by omega,k3]
theorem Seg.of {S:List UInt8} {p n:Nat} {r:List UInt8} (hp:p≤S.length) (hn:n≤(S.drop p).length) (h:(S.drop p).take n=r):Seg S p (p+n) r:=by
 rw [List.length_drop] at hn
 exact ⟨by omega,by omega,by rw [Nat.add_sub_cancel_left,h]⟩
theorem Seg.len {S:List UInt8} {p q:Nat} {r:List UInt8} (h:Seg S p q r):q=p+r.length:=by
 obtain ⟨h1,h2,h3⟩:=h
 have:=congrArg List.length h3
 rw [List.length_take,List.length_drop] at this
 omega
theorem Ybz {l:List UInt8} {p n:Nat} (h:p+n≤8*l.length):Seg (Yac l) p (p+n) (Yau (Ya1 l p n) n):=by
 have hs:=Yah l
 refine ⟨by omega,by omega,?_⟩
 rw [Nat.add_sub_cancel_left]
 have hr:Yax (((Yac l).drop p).take n)=true:=Ybw _ _ (Yba _ _ (Yc4 l))
 have e:=Yhc _ hr
 rw [List.length_take,List.length_drop,show min n ((Yac l).length-p)=n by omega] at e
 exact e.symm
def Y99 (k:Int):Int×Int×Int×Int:=
 if k=1 then (128,96,6,1) else if k=2 then (176,144,9,1) else if k=3 then (352,288,18,1) else if k=4 then (704,576,18,2) else if k=5 then (1408,1152,18,4) else if k=6 then (32,32,2,1) else (0,0,0,0)
def Y1f (k:Int):Int:=(Y99 k).1
def Y5h (k:Int):Int:=(Y99 k).2.1
def Yhg (k:Int):Int:=(Y99 k).2.2.1
def Yjg (k:Int):Int:=(Y99 k).2.2.2
def Yfs (k:Int):Bool:=decide (1≤k∧k≤6)
theorem Yc0 (k:Int):k=1∨k=2∨k=3∨k=4∨k=5∨k=6∨(Yfs k=false∧Y99 k=(0,0,0,0)):=by
 by_cases h:1≤k∧k≤6
 ·omega
 ·refine .inr (.inr (.inr (.inr (.inr (.inr ⟨by simpa [Yfs] using h,?_⟩)))))
  unfold Y99
  rw [if_neg (by omega),if_neg (by omega),if_neg (by omega),if_neg (by omega),if_neg (by omega),if_neg (by omega)]
theorem Yvm {k:Int} (h:Yfs k=false):(k==1)=false∧(k==2)=false∧(k==3)=false∧(k==4)=false∧(k==5)=false∧(k==6)=false:=by
 have h1:¬ (1≤k∧k≤6):=by simpa [Yfs] using h
 refine ⟨?_,?_,?_,?_,?_,?_⟩ <;> (simp;omega)
end Go.Proofs.YtpgdngijmihafaaGreatDoor